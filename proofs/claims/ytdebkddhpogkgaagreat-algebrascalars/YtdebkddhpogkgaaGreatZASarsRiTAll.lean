import Derived.Test.YtdebkddhpogkgaaGreatZASarsEdMAll
import Derived.Test.YtdebkddhpogkgaaGreatZASarsRef6
import Derived.Test.YtdebkddhpogkgaaGreatZASarsRiMAll
set_option linter.unusedSimpArgs false
set_option linter.unusedVariables false
namespace Go.Proofs.YtdebkddhpogkgaaGreat
open Go.RowKit Go.Ev
theorem ok_nNum:Ok nNum:=⟨by decide,by decide⟩
theorem ok_iNum:Ok iNum:=⟨by decide,by decide⟩
theorem bd_iNum:0≤iNum∧iNum<pr:=⟨by decide,by decide⟩
theorem bd_nNum:0≤nNum∧nNum<pr:=⟨by decide,by decide⟩
theorem bd_nn {x:Int} (h:0≤x∧x<pr):0≤nn (nuC x)∧nn (nuC x)<pr:=by rw[nn_nuC x h];exact h
theorem nm_i:nm (feC iNum)=iNum:=nm_feC _ ok_iNum
theorem nm_n:nm (feC nNum)=nNum:=nm_feC _ ok_nNum
theorem nm_abs (x:Int):nm (feC (absF x))=absF x:=nm_feC _ (ok_absF x)
theorem nn_i:nn (nuC iNum)=iNum:=nn_nuC _ bd_iNum
theorem nn_n:nn (nuC nNum)=nNum:=nn_nuC _ bd_nNum
theorem nn_absm (x:Int):nn (nuC (absR (x%pr)))=absR (x%pr):=nn_nuC _ (bd_absR _ (mod_bd _))
def eI:Entry Tryz.prog:=ent0 Tryz.func66 (by kernel_rfl) (by kernel_rfl) (.agg (feC iNum)) (fun w=>I_c w)
def eAbs:Entry Tryz.prog:=ent1 Tryz.func62 (by kernel_rfl) (by kernel_rfl) feD (fun A:Int=> .agg (feC (absF A))) (fun A hA w=>Abs_c A hA w)
def eBytes:Entry Tryz.prog:=ent1 Tryz.func68 (by kernel_rfl) (by kernel_rfl) feD (fun A:Int=> .agg (byC (A%pr))) (fun A hA w=>Bytes_c A hA w)
def eRead:Entry Tryz.prog:=ent1 Tryz.func53 (by kernel_rfl) (by kernel_rfl) byD (fun n:Int=> .tuple #[.agg (feC (n%pr)),.bool (decide (n%pr=n))]) (fun n hn w=>Read_c n hn w)
def rI:Entry Tryz.prog:=ent0 Tryz.func77 (by kernel_rfl) (by kernel_rfl) (.agg (nuC iNum)) (fun w=>RI_c w)
def rAbs:Entry Tryz.prog:=ent1 Tryz.func81 (by kernel_rfl) (by kernel_rfl) nuD (fun A:Int=> .agg (nuC (absR A))) (fun A hA w=>RAbs_c A hA w)
def rOdd:Entry Tryz.prog:=ent1 Tryz.func76 (by kernel_rfl) (by kernel_rfl) nuD (fun A:Int=> .bool (decide (A%2=1))) (fun A hA w=>ROdd_c A w)
def rBytes:Entry Tryz.prog:=ent1 Tryz.func80 (by kernel_rfl) (by kernel_rfl) nuD (fun A:Int=> .agg (byC A)) (fun A hA w=>RBytes_c A hA.1 w)
def tab11:List (Entry Tryz.prog):=eI :: eAbs :: eBytes :: eRead :: rI :: rAbs :: rOdd :: rBytes :: tab6
def rov_h (i:Nat):Hn:=⟨0,[],[],[],[]⟩
theorem rov_0:evF (yty.en tab11) rov_h Tryz.f67 [] []=some (.agg (feC 54469307008909316920995813868745141605393597292927456921205312896311721017578),((True∧True)∧((feC 54469307008909316920995813868745141605393597292927456921205312896311721017578).all (fun v=>v.oneCell')=true))):=by kernel_rfl
def rov_F:Value:= .agg (feC 54469307008909316920995813868745141605393597292927456921205312896311721017578)
set_option maxHeartbeats 4000000 in
theorem rov_p:Pure Tryz.prog 67 #[] (rov_F):=by
  unfold rov_F
  exact pure_of mixed Tryz.func67 _ (rov_0) rfl ⟨⟨trivial,trivial⟩,one_fe _⟩
def pN:Entry Tryz.prog:=ent0 Tryz.func67 (by kernel_rfl) (by kernel_rfl) (.agg (feC nNum)) rov_p
def tab12:List (Entry Tryz.prog):=pN :: tab11
end Go.Proofs.YtdebkddhpogkgaaGreat

set_option linter.unusedSimpArgs false
set_option linter.unusedVariables false
namespace Go.Proofs.YtdebkddhpogkgaaGreat
open Go.RowKit Go.Ev
def ren_v0 (p:P4):Int:=(nm (feC p.Z)+nm (feC p.Y))%pr
def ren_u0 (p:P4):Int:=(p.Z+p.Y)%pr
theorem ren_w0 (p:P4) (hp:Ok4 p):ren_v0 p=ren_u0 p:=by
  have⟨hX,hY,hZ,hT⟩:=hp
  unfold ren_v0 ren_u0
  simp only[nm_mod,nn_mod,nm_inv,nn_inv,nm_d,nn_d,nm_1,nn_1,nm_root,nn_quo,nm_feC _ hX,nm_feC _ hY,nm_feC _ hZ,nm_feC _ hT,nm_i,nm_n,nm_abs]
theorem ren_x0 (p:P4) (hp:Ok4 p):nm (feC (ren_v0 p))=ren_u0 p:=by
  have⟨hX,hY,hZ,hT⟩:=hp
  exact(nm_feC _ (ok_mod _)).trans (ren_w0 p hp)
def ren_v1 (p:P4):Int:=(nm (feC p.Z) - nm (feC p.Y))%pr
def ren_u1 (p:P4):Int:=(p.Z - p.Y)%pr
theorem ren_w1 (p:P4) (hp:Ok4 p):ren_v1 p=ren_u1 p:=by
  have⟨hX,hY,hZ,hT⟩:=hp
  unfold ren_v1 ren_u1
  simp only[nm_mod,nn_mod,nm_inv,nn_inv,nm_d,nn_d,nm_1,nn_1,nm_root,nn_quo,nm_feC _ hX,nm_feC _ hY,nm_feC _ hZ,nm_feC _ hT,nm_i,nm_n,nm_abs]
theorem ren_x1 (p:P4) (hp:Ok4 p):nm (feC (ren_v1 p))=ren_u1 p:=by
  have⟨hX,hY,hZ,hT⟩:=hp
  exact(nm_feC _ (ok_mod _)).trans (ren_w1 p hp)
def ren_v2 (p:P4):Int:=nm (feC (ren_v0 p))*nm (feC (ren_v1 p))%pr
def ren_u2 (p:P4):Int:=(ren_u0 p)*(ren_u1 p)%pr
theorem ren_w2 (p:P4) (hp:Ok4 p):ren_v2 p=ren_u2 p:=by
  have⟨hX,hY,hZ,hT⟩:=hp
  unfold ren_v2 ren_u2
  simp only[nm_mod,nn_mod,nm_inv,nn_inv,nm_d,nn_d,nm_1,nn_1,nm_root,nn_quo,nm_feC _ hX,nm_feC _ hY,nm_feC _ hZ,nm_feC _ hT,nm_i,nm_n,nm_abs,ren_x0 p hp,ren_x1 p hp]
theorem ren_x2 (p:P4) (hp:Ok4 p):nm (feC (ren_v2 p))=ren_u2 p:=by
  have⟨hX,hY,hZ,hT⟩:=hp
  exact(nm_feC _ (ok_mod _)).trans (ren_w2 p hp)
def ren_v3 (p:P4):Int:=nm (feC p.X)*nm (feC p.Y)%pr
def ren_u3 (p:P4):Int:=p.X*p.Y%pr
theorem ren_w3 (p:P4) (hp:Ok4 p):ren_v3 p=ren_u3 p:=by
  have⟨hX,hY,hZ,hT⟩:=hp
  unfold ren_v3 ren_u3
  simp only[nm_mod,nn_mod,nm_inv,nn_inv,nm_d,nn_d,nm_1,nn_1,nm_root,nn_quo,nm_feC _ hX,nm_feC _ hY,nm_feC _ hZ,nm_feC _ hT,nm_i,nm_n,nm_abs]
theorem ren_x3 (p:P4) (hp:Ok4 p):nm (feC (ren_v3 p))=ren_u3 p:=by
  have⟨hX,hY,hZ,hT⟩:=hp
  exact(nm_feC _ (ok_mod _)).trans (ren_w3 p hp)
def ren_v4 (p:P4):Int:=nm (feC (ren_v3 p))*nm (feC (ren_v3 p))%pr
def ren_u4 (p:P4):Int:=(ren_u3 p)*(ren_u3 p)%pr
theorem ren_w4 (p:P4) (hp:Ok4 p):ren_v4 p=ren_u4 p:=by
  have⟨hX,hY,hZ,hT⟩:=hp
  unfold ren_v4 ren_u4
  simp only[nm_mod,nn_mod,nm_inv,nn_inv,nm_d,nn_d,nm_1,nn_1,nm_root,nn_quo,nm_feC _ hX,nm_feC _ hY,nm_feC _ hZ,nm_feC _ hT,nm_i,nm_n,nm_abs,ren_x3 p hp]
theorem ren_x4 (p:P4) (hp:Ok4 p):nm (feC (ren_v4 p))=ren_u4 p:=by
  have⟨hX,hY,hZ,hT⟩:=hp
  exact(nm_feC _ (ok_mod _)).trans (ren_w4 p hp)
def ren_v5 (p:P4):Int:=nm (feC (ren_v2 p))*nm (feC (ren_v4 p))%pr
def ren_u5 (p:P4):Int:=(ren_u2 p)*(ren_u4 p)%pr
theorem ren_w5 (p:P4) (hp:Ok4 p):ren_v5 p=ren_u5 p:=by
  have⟨hX,hY,hZ,hT⟩:=hp
  unfold ren_v5 ren_u5
  simp only[nm_mod,nn_mod,nm_inv,nn_inv,nm_d,nn_d,nm_1,nn_1,nm_root,nn_quo,nm_feC _ hX,nm_feC _ hY,nm_feC _ hZ,nm_feC _ hT,nm_i,nm_n,nm_abs,ren_x2 p hp,ren_x4 p hp]
theorem ren_x5 (p:P4) (hp:Ok4 p):nm (feC (ren_v5 p))=ren_u5 p:=by
  have⟨hX,hY,hZ,hT⟩:=hp
  exact(nm_feC _ (ok_mod _)).trans (ren_w5 p hp)
def ren_v6 (p:P4):Int:=rootV (nm (feC 1)) (nm (feC (ren_v5 p)))
def ren_u6 (p:P4):Int:=rootV (1) ((ren_u5 p))
theorem ren_w6 (p:P4) (hp:Ok4 p):ren_v6 p=ren_u6 p:=by
  have⟨hX,hY,hZ,hT⟩:=hp
  unfold ren_v6 ren_u6
  simp only[nm_mod,nn_mod,nm_inv,nn_inv,nm_d,nn_d,nm_1,nn_1,nm_root,nn_quo,nm_feC _ hX,nm_feC _ hY,nm_feC _ hZ,nm_feC _ hT,nm_i,nm_n,nm_abs,ren_x5 p hp]
theorem ren_x6 (p:P4) (hp:Ok4 p):nm (feC (ren_v6 p))=ren_u6 p:=by
  have⟨hX,hY,hZ,hT⟩:=hp
  exact(nm_feC _ (ok_rootV _ _)).trans (ren_w6 p hp)
def ren_v7 (p:P4):Int:=nm (feC (ren_v6 p))*nm (feC (ren_v2 p))%pr
def ren_u7 (p:P4):Int:=(ren_u6 p)*(ren_u2 p)%pr
theorem ren_w7 (p:P4) (hp:Ok4 p):ren_v7 p=ren_u7 p:=by
  have⟨hX,hY,hZ,hT⟩:=hp
  unfold ren_v7 ren_u7
  simp only[nm_mod,nn_mod,nm_inv,nn_inv,nm_d,nn_d,nm_1,nn_1,nm_root,nn_quo,nm_feC _ hX,nm_feC _ hY,nm_feC _ hZ,nm_feC _ hT,nm_i,nm_n,nm_abs,ren_x2 p hp,ren_x6 p hp]
theorem ren_x7 (p:P4) (hp:Ok4 p):nm (feC (ren_v7 p))=ren_u7 p:=by
  have⟨hX,hY,hZ,hT⟩:=hp
  exact(nm_feC _ (ok_mod _)).trans (ren_w7 p hp)
def ren_v8 (p:P4):Int:=nm (feC (ren_v6 p))*nm (feC (ren_v3 p))%pr
def ren_u8 (p:P4):Int:=(ren_u6 p)*(ren_u3 p)%pr
theorem ren_w8 (p:P4) (hp:Ok4 p):ren_v8 p=ren_u8 p:=by
  have⟨hX,hY,hZ,hT⟩:=hp
  unfold ren_v8 ren_u8
  simp only[nm_mod,nn_mod,nm_inv,nn_inv,nm_d,nn_d,nm_1,nn_1,nm_root,nn_quo,nm_feC _ hX,nm_feC _ hY,nm_feC _ hZ,nm_feC _ hT,nm_i,nm_n,nm_abs,ren_x3 p hp,ren_x6 p hp]
theorem ren_x8 (p:P4) (hp:Ok4 p):nm (feC (ren_v8 p))=ren_u8 p:=by
  have⟨hX,hY,hZ,hT⟩:=hp
  exact(nm_feC _ (ok_mod _)).trans (ren_w8 p hp)
def ren_v9 (p:P4):Int:=nm (feC (ren_v7 p))*nm (feC (ren_v8 p))%pr
def ren_u9 (p:P4):Int:=(ren_u7 p)*(ren_u8 p)%pr
theorem ren_w9 (p:P4) (hp:Ok4 p):ren_v9 p=ren_u9 p:=by
  have⟨hX,hY,hZ,hT⟩:=hp
  unfold ren_v9 ren_u9
  simp only[nm_mod,nn_mod,nm_inv,nn_inv,nm_d,nn_d,nm_1,nn_1,nm_root,nn_quo,nm_feC _ hX,nm_feC _ hY,nm_feC _ hZ,nm_feC _ hT,nm_i,nm_n,nm_abs,ren_x7 p hp,ren_x8 p hp]
theorem ren_x9 (p:P4) (hp:Ok4 p):nm (feC (ren_v9 p))=ren_u9 p:=by
  have⟨hX,hY,hZ,hT⟩:=hp
  exact(nm_feC _ (ok_mod _)).trans (ren_w9 p hp)
def ren_v10 (p:P4):Int:=nm (feC (ren_v9 p))*nm (feC p.T)%pr
def ren_u10 (p:P4):Int:=(ren_u9 p)*p.T%pr
theorem ren_w10 (p:P4) (hp:Ok4 p):ren_v10 p=ren_u10 p:=by
  have⟨hX,hY,hZ,hT⟩:=hp
  unfold ren_v10 ren_u10
  simp only[nm_mod,nn_mod,nm_inv,nn_inv,nm_d,nn_d,nm_1,nn_1,nm_root,nn_quo,nm_feC _ hX,nm_feC _ hY,nm_feC _ hZ,nm_feC _ hT,nm_i,nm_n,nm_abs,ren_x9 p hp]
theorem ren_x10 (p:P4) (hp:Ok4 p):nm (feC (ren_v10 p))=ren_u10 p:=by
  have⟨hX,hY,hZ,hT⟩:=hp
  exact(nm_feC _ (ok_mod _)).trans (ren_w10 p hp)
def ren_v11 (p:P4):Int:=nm (feC p.T)*nm (feC (ren_v10 p))%pr
def ren_u11 (p:P4):Int:=p.T*(ren_u10 p)%pr
theorem ren_w11 (p:P4) (hp:Ok4 p):ren_v11 p=ren_u11 p:=by
  have⟨hX,hY,hZ,hT⟩:=hp
  unfold ren_v11 ren_u11
  simp only[nm_mod,nn_mod,nm_inv,nn_inv,nm_d,nn_d,nm_1,nn_1,nm_root,nn_quo,nm_feC _ hX,nm_feC _ hY,nm_feC _ hZ,nm_feC _ hT,nm_i,nm_n,nm_abs,ren_x10 p hp]
theorem ren_x11 (p:P4) (hp:Ok4 p):nm (feC (ren_v11 p))=ren_u11 p:=by
  have⟨hX,hY,hZ,hT⟩:=hp
  exact(nm_feC _ (ok_mod _)).trans (ren_w11 p hp)
def ren_v12 (p:P4):Int:=nm (feC iNum)*nm (feC p.Y)%pr
def ren_u12 (p:P4):Int:=iNum*p.Y%pr
theorem ren_w12 (p:P4) (hp:Ok4 p):ren_v12 p=ren_u12 p:=by
  have⟨hX,hY,hZ,hT⟩:=hp
  unfold ren_v12 ren_u12
  simp only[nm_mod,nn_mod,nm_inv,nn_inv,nm_d,nn_d,nm_1,nn_1,nm_root,nn_quo,nm_feC _ hX,nm_feC _ hY,nm_feC _ hZ,nm_feC _ hT,nm_i,nm_n,nm_abs]
theorem ren_x12 (p:P4) (hp:Ok4 p):nm (feC (ren_v12 p))=ren_u12 p:=by
  have⟨hX,hY,hZ,hT⟩:=hp
  exact(nm_feC _ (ok_mod _)).trans (ren_w12 p hp)
def ren_v13 (p:P4):Int:=nm (feC iNum)*nm (feC p.X)%pr
def ren_u13 (p:P4):Int:=iNum*p.X%pr
theorem ren_w13 (p:P4) (hp:Ok4 p):ren_v13 p=ren_u13 p:=by
  have⟨hX,hY,hZ,hT⟩:=hp
  unfold ren_v13 ren_u13
  simp only[nm_mod,nn_mod,nm_inv,nn_inv,nm_d,nn_d,nm_1,nn_1,nm_root,nn_quo,nm_feC _ hX,nm_feC _ hY,nm_feC _ hZ,nm_feC _ hT,nm_i,nm_n,nm_abs]
theorem ren_x13 (p:P4) (hp:Ok4 p):nm (feC (ren_v13 p))=ren_u13 p:=by
  have⟨hX,hY,hZ,hT⟩:=hp
  exact(nm_feC _ (ok_mod _)).trans (ren_w13 p hp)
def ren_v14 (p:P4):Int:=nm (feC (ren_v7 p))*nm (feC nNum)%pr
def ren_u14 (p:P4):Int:=(ren_u7 p)*nNum%pr
theorem ren_w14 (p:P4) (hp:Ok4 p):ren_v14 p=ren_u14 p:=by
  have⟨hX,hY,hZ,hT⟩:=hp
  unfold ren_v14 ren_u14
  simp only[nm_mod,nn_mod,nm_inv,nn_inv,nm_d,nn_d,nm_1,nn_1,nm_root,nn_quo,nm_feC _ hX,nm_feC _ hY,nm_feC _ hZ,nm_feC _ hT,nm_i,nm_n,nm_abs,ren_x7 p hp]
theorem ren_x14 (p:P4) (hp:Ok4 p):nm (feC (ren_v14 p))=ren_u14 p:=by
  have⟨hX,hY,hZ,hT⟩:=hp
  exact(nm_feC _ (ok_mod _)).trans (ren_w14 p hp)
def ren_v15 (p:P4):Int:=nm (feC (ren_v12 p))*nm (feC (ren_v10 p))%pr
def ren_u15 (p:P4):Int:=(ren_u12 p)*(ren_u10 p)%pr
theorem ren_w15 (p:P4) (hp:Ok4 p):ren_v15 p=ren_u15 p:=by
  have⟨hX,hY,hZ,hT⟩:=hp
  unfold ren_v15 ren_u15
  simp only[nm_mod,nn_mod,nm_inv,nn_inv,nm_d,nn_d,nm_1,nn_1,nm_root,nn_quo,nm_feC _ hX,nm_feC _ hY,nm_feC _ hZ,nm_feC _ hT,nm_i,nm_n,nm_abs,ren_x10 p hp,ren_x12 p hp]
theorem ren_x15 (p:P4) (hp:Ok4 p):nm (feC (ren_v15 p))=ren_u15 p:=by
  have⟨hX,hY,hZ,hT⟩:=hp
  exact(nm_feC _ (ok_mod _)).trans (ren_w15 p hp)
def ren_v16 (p:P4):Int:= -(nm (feC (ren_v13 p)))%pr
def ren_u16 (p:P4):Int:= -((ren_u13 p))%pr
theorem ren_w16 (p:P4) (hp:Ok4 p):ren_v16 p=ren_u16 p:=by
  have⟨hX,hY,hZ,hT⟩:=hp
  unfold ren_v16 ren_u16
  simp only[nm_mod,nn_mod,nm_inv,nn_inv,nm_d,nn_d,nm_1,nn_1,nm_root,nn_quo,nm_feC _ hX,nm_feC _ hY,nm_feC _ hZ,nm_feC _ hT,nm_i,nm_n,nm_abs,ren_x13 p hp]
theorem ren_x16 (p:P4) (hp:Ok4 p):nm (feC (ren_v16 p))=ren_u16 p:=by
  have⟨hX,hY,hZ,hT⟩:=hp
  exact(nm_feC _ (ok_mod _)).trans (ren_w16 p hp)
def ren_v17 (p:P4):Int:=(nm (feC p.Z) - nm (feC (ren_v16 p)))%pr
def ren_u17 (p:P4):Int:=(p.Z - (ren_u16 p))%pr
theorem ren_w17 (p:P4) (hp:Ok4 p):ren_v17 p=ren_u17 p:=by
  have⟨hX,hY,hZ,hT⟩:=hp
  unfold ren_v17 ren_u17
  simp only[nm_mod,nn_mod,nm_inv,nn_inv,nm_d,nn_d,nm_1,nn_1,nm_root,nn_quo,nm_feC _ hX,nm_feC _ hY,nm_feC _ hZ,nm_feC _ hT,nm_i,nm_n,nm_abs,ren_x16 p hp]
theorem ren_x17 (p:P4) (hp:Ok4 p):nm (feC (ren_v17 p))=ren_u17 p:=by
  have⟨hX,hY,hZ,hT⟩:=hp
  exact(nm_feC _ (ok_mod _)).trans (ren_w17 p hp)
def ren_v18 (p:P4):Int:=nm (feC (ren_v14 p))*nm (feC (ren_v17 p))%pr
def ren_u18 (p:P4):Int:=(ren_u14 p)*(ren_u17 p)%pr
theorem ren_w18 (p:P4) (hp:Ok4 p):ren_v18 p=ren_u18 p:=by
  have⟨hX,hY,hZ,hT⟩:=hp
  unfold ren_v18 ren_u18
  simp only[nm_mod,nn_mod,nm_inv,nn_inv,nm_d,nn_d,nm_1,nn_1,nm_root,nn_quo,nm_feC _ hX,nm_feC _ hY,nm_feC _ hZ,nm_feC _ hT,nm_i,nm_n,nm_abs,ren_x14 p hp,ren_x17 p hp]
theorem ren_x18 (p:P4) (hp:Ok4 p):nm (feC (ren_v18 p))=ren_u18 p:=by
  have⟨hX,hY,hZ,hT⟩:=hp
  exact(nm_feC _ (ok_mod _)).trans (ren_w18 p hp)
def ren_v19 (p:P4):Int:=absF (nm (feC (ren_v18 p)))
def ren_u19 (p:P4):Int:=absF ((ren_u18 p))
theorem ren_w19 (p:P4) (hp:Ok4 p):ren_v19 p=ren_u19 p:=by
  have⟨hX,hY,hZ,hT⟩:=hp
  unfold ren_v19 ren_u19
  simp only[nm_mod,nn_mod,nm_inv,nn_inv,nm_d,nn_d,nm_1,nn_1,nm_root,nn_quo,nm_feC _ hX,nm_feC _ hY,nm_feC _ hZ,nm_feC _ hT,nm_i,nm_n,nm_abs,ren_x18 p hp]
theorem ren_x19 (p:P4) (hp:Ok4 p):nm (feC (ren_v19 p))=ren_u19 p:=by
  have⟨hX,hY,hZ,hT⟩:=hp
  exact(nm_feC _ (ok_absF _)).trans (ren_w19 p hp)
def ren_v20 (p:P4):Int:=nm (feC (ren_v19 p))%pr
def ren_u20 (p:P4):Int:=(ren_u19 p)%pr
theorem ren_w20 (p:P4) (hp:Ok4 p):ren_v20 p=ren_u20 p:=by
  have⟨hX,hY,hZ,hT⟩:=hp
  unfold ren_v20 ren_u20
  simp only[nm_mod,nn_mod,nm_inv,nn_inv,nm_d,nn_d,nm_1,nn_1,nm_root,nn_quo,nm_feC _ hX,nm_feC _ hY,nm_feC _ hZ,nm_feC _ hT,nm_i,nm_n,nm_abs,ren_x19 p hp]
theorem ren_x20 (p:P4) (hp:Ok4 p):db (byC (ren_v20 p))=ren_u20 p:=by
  have⟨hX,hY,hZ,hT⟩:=hp
  exact(db_byC _ (ok_mod _)).trans (ren_w20 p hp)
def ren_v21 (p:P4):Int:=(nm (feC p.Z) - nm (feC (ren_v13 p)))%pr
def ren_u21 (p:P4):Int:=(p.Z - (ren_u13 p))%pr
theorem ren_w21 (p:P4) (hp:Ok4 p):ren_v21 p=ren_u21 p:=by
  have⟨hX,hY,hZ,hT⟩:=hp
  unfold ren_v21 ren_u21
  simp only[nm_mod,nn_mod,nm_inv,nn_inv,nm_d,nn_d,nm_1,nn_1,nm_root,nn_quo,nm_feC _ hX,nm_feC _ hY,nm_feC _ hZ,nm_feC _ hT,nm_i,nm_n,nm_abs,ren_x13 p hp]
theorem ren_x21 (p:P4) (hp:Ok4 p):nm (feC (ren_v21 p))=ren_u21 p:=by
  have⟨hX,hY,hZ,hT⟩:=hp
  exact(nm_feC _ (ok_mod _)).trans (ren_w21 p hp)
def ren_v22 (p:P4):Int:=nm (feC (ren_v14 p))*nm (feC (ren_v21 p))%pr
def ren_u22 (p:P4):Int:=(ren_u14 p)*(ren_u21 p)%pr
theorem ren_w22 (p:P4) (hp:Ok4 p):ren_v22 p=ren_u22 p:=by
  have⟨hX,hY,hZ,hT⟩:=hp
  unfold ren_v22 ren_u22
  simp only[nm_mod,nn_mod,nm_inv,nn_inv,nm_d,nn_d,nm_1,nn_1,nm_root,nn_quo,nm_feC _ hX,nm_feC _ hY,nm_feC _ hZ,nm_feC _ hT,nm_i,nm_n,nm_abs,ren_x14 p hp,ren_x21 p hp]
theorem ren_x22 (p:P4) (hp:Ok4 p):nm (feC (ren_v22 p))=ren_u22 p:=by
  have⟨hX,hY,hZ,hT⟩:=hp
  exact(nm_feC _ (ok_mod _)).trans (ren_w22 p hp)
def ren_v23 (p:P4):Int:=absF (nm (feC (ren_v22 p)))
def ren_u23 (p:P4):Int:=absF ((ren_u22 p))
theorem ren_w23 (p:P4) (hp:Ok4 p):ren_v23 p=ren_u23 p:=by
  have⟨hX,hY,hZ,hT⟩:=hp
  unfold ren_v23 ren_u23
  simp only[nm_mod,nn_mod,nm_inv,nn_inv,nm_d,nn_d,nm_1,nn_1,nm_root,nn_quo,nm_feC _ hX,nm_feC _ hY,nm_feC _ hZ,nm_feC _ hT,nm_i,nm_n,nm_abs,ren_x22 p hp]
theorem ren_x23 (p:P4) (hp:Ok4 p):nm (feC (ren_v23 p))=ren_u23 p:=by
  have⟨hX,hY,hZ,hT⟩:=hp
  exact(nm_feC _ (ok_absF _)).trans (ren_w23 p hp)
def ren_v24 (p:P4):Int:=nm (feC (ren_v23 p))%pr
def ren_u24 (p:P4):Int:=(ren_u23 p)%pr
theorem ren_w24 (p:P4) (hp:Ok4 p):ren_v24 p=ren_u24 p:=by
  have⟨hX,hY,hZ,hT⟩:=hp
  unfold ren_v24 ren_u24
  simp only[nm_mod,nn_mod,nm_inv,nn_inv,nm_d,nn_d,nm_1,nn_1,nm_root,nn_quo,nm_feC _ hX,nm_feC _ hY,nm_feC _ hZ,nm_feC _ hT,nm_i,nm_n,nm_abs,ren_x23 p hp]
theorem ren_x24 (p:P4) (hp:Ok4 p):db (byC (ren_v24 p))=ren_u24 p:=by
  have⟨hX,hY,hZ,hT⟩:=hp
  exact(db_byC _ (ok_mod _)).trans (ren_w24 p hp)
def ren_v25 (p:P4):Int:=nm (feC p.X)*nm (feC (ren_v10 p))%pr
def ren_u25 (p:P4):Int:=p.X*(ren_u10 p)%pr
theorem ren_w25 (p:P4) (hp:Ok4 p):ren_v25 p=ren_u25 p:=by
  have⟨hX,hY,hZ,hT⟩:=hp
  unfold ren_v25 ren_u25
  simp only[nm_mod,nn_mod,nm_inv,nn_inv,nm_d,nn_d,nm_1,nn_1,nm_root,nn_quo,nm_feC _ hX,nm_feC _ hY,nm_feC _ hZ,nm_feC _ hT,nm_i,nm_n,nm_abs,ren_x10 p hp]
theorem ren_x25 (p:P4) (hp:Ok4 p):nm (feC (ren_v25 p))=ren_u25 p:=by
  have⟨hX,hY,hZ,hT⟩:=hp
  exact(nm_feC _ (ok_mod _)).trans (ren_w25 p hp)
def ren_v26 (p:P4):Int:=(nm (feC p.Z) - nm (feC (-(nm (feC p.Y))%pr)))%pr
def ren_u26 (p:P4):Int:=(p.Z - (-(p.Y)%pr))%pr
theorem ren_w26 (p:P4) (hp:Ok4 p):ren_v26 p=ren_u26 p:=by
  have⟨hX,hY,hZ,hT⟩:=hp
  unfold ren_v26 ren_u26
  simp only[nm_mod,nn_mod,nm_inv,nn_inv,nm_d,nn_d,nm_1,nn_1,nm_root,nn_quo,nm_feC _ hX,nm_feC _ hY,nm_feC _ hZ,nm_feC _ hT,nm_i,nm_n,nm_abs]
theorem ren_x26 (p:P4) (hp:Ok4 p):nm (feC (ren_v26 p))=ren_u26 p:=by
  have⟨hX,hY,hZ,hT⟩:=hp
  exact(nm_feC _ (ok_mod _)).trans (ren_w26 p hp)
def ren_v27 (p:P4):Int:=nm (feC (ren_v8 p))*nm (feC (ren_v26 p))%pr
def ren_u27 (p:P4):Int:=(ren_u8 p)*(ren_u26 p)%pr
theorem ren_w27 (p:P4) (hp:Ok4 p):ren_v27 p=ren_u27 p:=by
  have⟨hX,hY,hZ,hT⟩:=hp
  unfold ren_v27 ren_u27
  simp only[nm_mod,nn_mod,nm_inv,nn_inv,nm_d,nn_d,nm_1,nn_1,nm_root,nn_quo,nm_feC _ hX,nm_feC _ hY,nm_feC _ hZ,nm_feC _ hT,nm_i,nm_n,nm_abs,ren_x8 p hp,ren_x26 p hp]
theorem ren_x27 (p:P4) (hp:Ok4 p):nm (feC (ren_v27 p))=ren_u27 p:=by
  have⟨hX,hY,hZ,hT⟩:=hp
  exact(nm_feC _ (ok_mod _)).trans (ren_w27 p hp)
def ren_v28 (p:P4):Int:=absF (nm (feC (ren_v27 p)))
def ren_u28 (p:P4):Int:=absF ((ren_u27 p))
theorem ren_w28 (p:P4) (hp:Ok4 p):ren_v28 p=ren_u28 p:=by
  have⟨hX,hY,hZ,hT⟩:=hp
  unfold ren_v28 ren_u28
  simp only[nm_mod,nn_mod,nm_inv,nn_inv,nm_d,nn_d,nm_1,nn_1,nm_root,nn_quo,nm_feC _ hX,nm_feC _ hY,nm_feC _ hZ,nm_feC _ hT,nm_i,nm_n,nm_abs,ren_x27 p hp]
theorem ren_x28 (p:P4) (hp:Ok4 p):nm (feC (ren_v28 p))=ren_u28 p:=by
  have⟨hX,hY,hZ,hT⟩:=hp
  exact(nm_feC _ (ok_absF _)).trans (ren_w28 p hp)
def ren_v29 (p:P4):Int:=nm (feC (ren_v28 p))%pr
def ren_u29 (p:P4):Int:=(ren_u28 p)%pr
theorem ren_w29 (p:P4) (hp:Ok4 p):ren_v29 p=ren_u29 p:=by
  have⟨hX,hY,hZ,hT⟩:=hp
  unfold ren_v29 ren_u29
  simp only[nm_mod,nn_mod,nm_inv,nn_inv,nm_d,nn_d,nm_1,nn_1,nm_root,nn_quo,nm_feC _ hX,nm_feC _ hY,nm_feC _ hZ,nm_feC _ hT,nm_i,nm_n,nm_abs,ren_x28 p hp]
theorem ren_x29 (p:P4) (hp:Ok4 p):db (byC (ren_v29 p))=ren_u29 p:=by
  have⟨hX,hY,hZ,hT⟩:=hp
  exact(db_byC _ (ok_mod _)).trans (ren_w29 p hp)
def ren_v30 (p:P4):Int:=nm (feC (ren_v8 p))*nm (feC (ren_v1 p))%pr
def ren_u30 (p:P4):Int:=(ren_u8 p)*(ren_u1 p)%pr
theorem ren_w30 (p:P4) (hp:Ok4 p):ren_v30 p=ren_u30 p:=by
  have⟨hX,hY,hZ,hT⟩:=hp
  unfold ren_v30 ren_u30
  simp only[nm_mod,nn_mod,nm_inv,nn_inv,nm_d,nn_d,nm_1,nn_1,nm_root,nn_quo,nm_feC _ hX,nm_feC _ hY,nm_feC _ hZ,nm_feC _ hT,nm_i,nm_n,nm_abs,ren_x1 p hp,ren_x8 p hp]
theorem ren_x30 (p:P4) (hp:Ok4 p):nm (feC (ren_v30 p))=ren_u30 p:=by
  have⟨hX,hY,hZ,hT⟩:=hp
  exact(nm_feC _ (ok_mod _)).trans (ren_w30 p hp)
def ren_v31 (p:P4):Int:=absF (nm (feC (ren_v30 p)))
def ren_u31 (p:P4):Int:=absF ((ren_u30 p))
theorem ren_w31 (p:P4) (hp:Ok4 p):ren_v31 p=ren_u31 p:=by
  have⟨hX,hY,hZ,hT⟩:=hp
  unfold ren_v31 ren_u31
  simp only[nm_mod,nn_mod,nm_inv,nn_inv,nm_d,nn_d,nm_1,nn_1,nm_root,nn_quo,nm_feC _ hX,nm_feC _ hY,nm_feC _ hZ,nm_feC _ hT,nm_i,nm_n,nm_abs,ren_x30 p hp]
theorem ren_x31 (p:P4) (hp:Ok4 p):nm (feC (ren_v31 p))=ren_u31 p:=by
  have⟨hX,hY,hZ,hT⟩:=hp
  exact(nm_feC _ (ok_absF _)).trans (ren_w31 p hp)
def ren_v32 (p:P4):Int:=nm (feC (ren_v31 p))%pr
def ren_u32 (p:P4):Int:=(ren_u31 p)%pr
theorem ren_w32 (p:P4) (hp:Ok4 p):ren_v32 p=ren_u32 p:=by
  have⟨hX,hY,hZ,hT⟩:=hp
  unfold ren_v32 ren_u32
  simp only[nm_mod,nn_mod,nm_inv,nn_inv,nm_d,nn_d,nm_1,nn_1,nm_root,nn_quo,nm_feC _ hX,nm_feC _ hY,nm_feC _ hZ,nm_feC _ hT,nm_i,nm_n,nm_abs,ren_x31 p hp]
theorem ren_x32 (p:P4) (hp:Ok4 p):db (byC (ren_v32 p))=ren_u32 p:=by
  have⟨hX,hY,hZ,hT⟩:=hp
  exact(db_byC _ (ok_mod _)).trans (ren_w32 p hp)
def ren_h (i:Nat):Hn:=if i=1 then⟨12,[],[],[],[]⟩ else if i=3 then⟨10,[(1,true),(2,true),(3,true),(0,false),(4,false),(5,false),(6,false),(7,true),(8,true),(9,true)],[(11,false),(12,false)],[],[]⟩ else if i=4 then⟨8,[],[],[],[]⟩ else if i=5 then⟨7,[],[],[],[]⟩ else if i=6 then⟨0,[(0,true),(1,true),(2,true),(3,true),(4,true)],[(8,false),(9,false),(10,false)],[],[(5,10),(6,11),(7,12)]⟩ else if i=8 then⟨6,[],[],[],[]⟩ else if i=9 then⟨3,[],[],[],[]⟩ else if i=12 then⟨8,[],[],[],[]⟩ else⟨0,[],[],[],[]⟩
theorem ren_0 (p:P4):evF (yty.en tab12) ren_h Tryz.f43 [.agg (ptC p)] [none,some (.bool true),some (.bool true)]=some (.agg (byC (ren_v20 p)),((((((((((((((((((((((((((((((((((((((((((((((((((((((((((((((((((((((((((((((((((((((True∧True)∧True)∧True)∧True)∧(feD.is (feC p.Z)∧feD.is (feC p.Y)))∧True)∧True)∧True)∧True)∧(feD.is (feC p.Z)∧feD.is (feC p.Y)))∧(feD.is (feC (ren_v0 p))∧feD.is (feC (ren_v1 p))))∧((feC (ren_v2 p)).all (fun v=>v.oneCell')=true))∧True)∧True)∧True)∧True)∧(feD.is (feC p.X)∧feD.is (feC p.Y)))∧((feC (ren_v3 p)).all (fun v=>v.oneCell')=true))∧True)∧True)∧True)∧(IntKind.u64=IntKind.u64∧w64 1))∧(feD.is (feC (ren_v3 p))∧feD.is (feC (ren_v3 p))))∧(feD.is (feC (ren_v2 p))∧feD.is (feC (ren_v4 p))))∧(feD.is (feC 1)∧feD.is (feC (ren_v5 p))))∧True)∧True)∧True)∧((feC (ren_v6 p)).all (fun v=>v.oneCell')=true))∧True)∧True)∧True)∧(feD.is (feC (ren_v6 p))∧feD.is (feC (ren_v2 p))))∧True)∧True)∧(feD.is (feC (ren_v6 p))∧feD.is (feC (ren_v3 p))))∧((feC (ren_v7 p)).all (fun v=>v.oneCell')=true))∧((feC (ren_v8 p)).all (fun v=>v.oneCell')=true))∧True)∧True)∧(feD.is (feC (ren_v7 p))∧feD.is (feC (ren_v8 p))))∧True)∧True)∧(feD.is (feC (ren_v9 p))∧feD.is (feC p.T)))∧((feC (ren_v10 p)).all (fun v=>v.oneCell')=true))∧True)∧True)∧True)∧True)∧True)∧((feC p.X).all (fun v=>v.oneCell')=true))∧((feC p.Y).all (fun v=>v.oneCell')=true))∧((feC (ren_v8 p)).all (fun v=>v.oneCell')=true))∧True)∧True)∧True)∧(feD.is (feC p.T)∧feD.is (feC (ren_v10 p))))∧(feD.is (feC (ren_v11 p))∧(decide (nm (feC (ren_v11 p))%pr%2=1))=true))∧True)∧True)∧(feD.is (feC iNum)∧feD.is (feC p.Y)))∧True)∧True)∧(feD.is (feC iNum)∧feD.is (feC p.X)))∧((feC (ren_v12 p)).all (fun v=>v.oneCell')=true))∧((feC (ren_v13 p)).all (fun v=>v.oneCell')=true))∧True)∧True)∧(feD.is (feC (ren_v7 p))∧feD.is (feC nNum)))∧((feC (ren_v14 p)).all (fun v=>v.oneCell')=true))∧True)∧True)∧(feD.is (feC (ren_v12 p))∧feD.is (feC (ren_v10 p))))∧(feD.is (feC (ren_v15 p))∧(decide (nm (feC (ren_v15 p))%pr%2=1))=true))∧True)∧feD.is (feC (ren_v13 p)))∧((feC (ren_v16 p)).all (fun v=>v.oneCell')=true))∧True)∧True)∧True)∧True)∧(feD.is (feC p.Z)∧feD.is (feC (ren_v16 p))))∧(feD.is (feC (ren_v14 p))∧feD.is (feC (ren_v17 p))))∧feD.is (feC (ren_v18 p)))∧feD.is (feC (ren_v19 p)))∧((byC (ren_v20 p)).all (fun v=>v.oneCell')=true))):=by kernel_rfl
theorem ren_1 (p:P4):evF (yty.en tab12) ren_h Tryz.f43 [.agg (ptC p)] [none,some (.bool true),some (.bool false)]=some (.agg (byC (ren_v24 p)),(((((((((((((((((((((((((((((((((((((((((((((((((((((((((((((((((((((((((((((((((((True∧True)∧True)∧True)∧True)∧(feD.is (feC p.Z)∧feD.is (feC p.Y)))∧True)∧True)∧True)∧True)∧(feD.is (feC p.Z)∧feD.is (feC p.Y)))∧(feD.is (feC (ren_v0 p))∧feD.is (feC (ren_v1 p))))∧((feC (ren_v2 p)).all (fun v=>v.oneCell')=true))∧True)∧True)∧True)∧True)∧(feD.is (feC p.X)∧feD.is (feC p.Y)))∧((feC (ren_v3 p)).all (fun v=>v.oneCell')=true))∧True)∧True)∧True)∧(IntKind.u64=IntKind.u64∧w64 1))∧(feD.is (feC (ren_v3 p))∧feD.is (feC (ren_v3 p))))∧(feD.is (feC (ren_v2 p))∧feD.is (feC (ren_v4 p))))∧(feD.is (feC 1)∧feD.is (feC (ren_v5 p))))∧True)∧True)∧True)∧((feC (ren_v6 p)).all (fun v=>v.oneCell')=true))∧True)∧True)∧True)∧(feD.is (feC (ren_v6 p))∧feD.is (feC (ren_v2 p))))∧True)∧True)∧(feD.is (feC (ren_v6 p))∧feD.is (feC (ren_v3 p))))∧((feC (ren_v7 p)).all (fun v=>v.oneCell')=true))∧((feC (ren_v8 p)).all (fun v=>v.oneCell')=true))∧True)∧True)∧(feD.is (feC (ren_v7 p))∧feD.is (feC (ren_v8 p))))∧True)∧True)∧(feD.is (feC (ren_v9 p))∧feD.is (feC p.T)))∧((feC (ren_v10 p)).all (fun v=>v.oneCell')=true))∧True)∧True)∧True)∧True)∧True)∧((feC p.X).all (fun v=>v.oneCell')=true))∧((feC p.Y).all (fun v=>v.oneCell')=true))∧((feC (ren_v8 p)).all (fun v=>v.oneCell')=true))∧True)∧True)∧True)∧(feD.is (feC p.T)∧feD.is (feC (ren_v10 p))))∧(feD.is (feC (ren_v11 p))∧(decide (nm (feC (ren_v11 p))%pr%2=1))=true))∧True)∧True)∧(feD.is (feC iNum)∧feD.is (feC p.Y)))∧True)∧True)∧(feD.is (feC iNum)∧feD.is (feC p.X)))∧((feC (ren_v12 p)).all (fun v=>v.oneCell')=true))∧((feC (ren_v13 p)).all (fun v=>v.oneCell')=true))∧True)∧True)∧(feD.is (feC (ren_v7 p))∧feD.is (feC nNum)))∧((feC (ren_v14 p)).all (fun v=>v.oneCell')=true))∧True)∧True)∧(feD.is (feC (ren_v12 p))∧feD.is (feC (ren_v10 p))))∧(feD.is (feC (ren_v15 p))∧(decide (nm (feC (ren_v15 p))%pr%2=1))=false))∧True)∧True)∧True)∧True)∧(feD.is (feC p.Z)∧feD.is (feC (ren_v13 p))))∧(feD.is (feC (ren_v14 p))∧feD.is (feC (ren_v21 p))))∧feD.is (feC (ren_v22 p)))∧feD.is (feC (ren_v23 p)))∧((byC (ren_v24 p)).all (fun v=>v.oneCell')=true))):=by kernel_rfl
theorem ren_2 (p:P4):evF (yty.en tab12) ren_h Tryz.f43 [.agg (ptC p)] [none,some (.bool false),some (.bool true)]=some (.agg (byC (ren_v29 p)),((((((((((((((((((((((((((((((((((((((((((((((((((((((((((((((((((((((((((True∧True)∧True)∧True)∧True)∧(feD.is (feC p.Z)∧feD.is (feC p.Y)))∧True)∧True)∧True)∧True)∧(feD.is (feC p.Z)∧feD.is (feC p.Y)))∧(feD.is (feC (ren_v0 p))∧feD.is (feC (ren_v1 p))))∧((feC (ren_v2 p)).all (fun v=>v.oneCell')=true))∧True)∧True)∧True)∧True)∧(feD.is (feC p.X)∧feD.is (feC p.Y)))∧((feC (ren_v3 p)).all (fun v=>v.oneCell')=true))∧True)∧True)∧True)∧(IntKind.u64=IntKind.u64∧w64 1))∧(feD.is (feC (ren_v3 p))∧feD.is (feC (ren_v3 p))))∧(feD.is (feC (ren_v2 p))∧feD.is (feC (ren_v4 p))))∧(feD.is (feC 1)∧feD.is (feC (ren_v5 p))))∧True)∧True)∧True)∧((feC (ren_v6 p)).all (fun v=>v.oneCell')=true))∧True)∧True)∧True)∧(feD.is (feC (ren_v6 p))∧feD.is (feC (ren_v2 p))))∧True)∧True)∧(feD.is (feC (ren_v6 p))∧feD.is (feC (ren_v3 p))))∧((feC (ren_v7 p)).all (fun v=>v.oneCell')=true))∧((feC (ren_v8 p)).all (fun v=>v.oneCell')=true))∧True)∧True)∧(feD.is (feC (ren_v7 p))∧feD.is (feC (ren_v8 p))))∧True)∧True)∧(feD.is (feC (ren_v9 p))∧feD.is (feC p.T)))∧((feC (ren_v10 p)).all (fun v=>v.oneCell')=true))∧True)∧True)∧True)∧True)∧True)∧((feC p.X).all (fun v=>v.oneCell')=true))∧((feC p.Y).all (fun v=>v.oneCell')=true))∧((feC (ren_v8 p)).all (fun v=>v.oneCell')=true))∧True)∧True)∧True)∧(feD.is (feC p.T)∧feD.is (feC (ren_v10 p))))∧(feD.is (feC (ren_v11 p))∧(decide (nm (feC (ren_v11 p))%pr%2=1))=false))∧True)∧True)∧(feD.is (feC p.X)∧feD.is (feC (ren_v10 p))))∧(feD.is (feC (ren_v25 p))∧(decide (nm (feC (ren_v25 p))%pr%2=1))=true))∧True)∧feD.is (feC p.Y))∧((feC (-(nm (feC p.Y))%pr)).all (fun v=>v.oneCell')=true))∧True)∧True)∧True)∧True)∧(feD.is (feC p.Z)∧feD.is (feC (-(nm (feC p.Y))%pr))))∧(feD.is (feC (ren_v8 p))∧feD.is (feC (ren_v26 p))))∧feD.is (feC (ren_v27 p)))∧feD.is (feC (ren_v28 p)))∧((byC (ren_v29 p)).all (fun v=>v.oneCell')=true))):=by kernel_rfl
theorem ren_3 (p:P4):evF (yty.en tab12) ren_h Tryz.f43 [.agg (ptC p)] [none,some (.bool false),some (.bool false)]=some (.agg (byC (ren_v32 p)),(((((((((((((((((((((((((((((((((((((((((((((((((((((((((((((((((((((((True∧True)∧True)∧True)∧True)∧(feD.is (feC p.Z)∧feD.is (feC p.Y)))∧True)∧True)∧True)∧True)∧(feD.is (feC p.Z)∧feD.is (feC p.Y)))∧(feD.is (feC (ren_v0 p))∧feD.is (feC (ren_v1 p))))∧((feC (ren_v2 p)).all (fun v=>v.oneCell')=true))∧True)∧True)∧True)∧True)∧(feD.is (feC p.X)∧feD.is (feC p.Y)))∧((feC (ren_v3 p)).all (fun v=>v.oneCell')=true))∧True)∧True)∧True)∧(IntKind.u64=IntKind.u64∧w64 1))∧(feD.is (feC (ren_v3 p))∧feD.is (feC (ren_v3 p))))∧(feD.is (feC (ren_v2 p))∧feD.is (feC (ren_v4 p))))∧(feD.is (feC 1)∧feD.is (feC (ren_v5 p))))∧True)∧True)∧True)∧((feC (ren_v6 p)).all (fun v=>v.oneCell')=true))∧True)∧True)∧True)∧(feD.is (feC (ren_v6 p))∧feD.is (feC (ren_v2 p))))∧True)∧True)∧(feD.is (feC (ren_v6 p))∧feD.is (feC (ren_v3 p))))∧((feC (ren_v7 p)).all (fun v=>v.oneCell')=true))∧((feC (ren_v8 p)).all (fun v=>v.oneCell')=true))∧True)∧True)∧(feD.is (feC (ren_v7 p))∧feD.is (feC (ren_v8 p))))∧True)∧True)∧(feD.is (feC (ren_v9 p))∧feD.is (feC p.T)))∧((feC (ren_v10 p)).all (fun v=>v.oneCell')=true))∧True)∧True)∧True)∧True)∧True)∧((feC p.X).all (fun v=>v.oneCell')=true))∧((feC p.Y).all (fun v=>v.oneCell')=true))∧((feC (ren_v8 p)).all (fun v=>v.oneCell')=true))∧True)∧True)∧True)∧(feD.is (feC p.T)∧feD.is (feC (ren_v10 p))))∧(feD.is (feC (ren_v11 p))∧(decide (nm (feC (ren_v11 p))%pr%2=1))=false))∧True)∧True)∧(feD.is (feC p.X)∧feD.is (feC (ren_v10 p))))∧(feD.is (feC (ren_v25 p))∧(decide (nm (feC (ren_v25 p))%pr%2=1))=false))∧True)∧True)∧True)∧True)∧(feD.is (feC p.Z)∧feD.is (feC p.Y)))∧(feD.is (feC (ren_v8 p))∧feD.is (feC (ren_v1 p))))∧feD.is (feC (ren_v30 p)))∧feD.is (feC (ren_v31 p)))∧((byC (ren_v32 p)).all (fun v=>v.oneCell')=true))):=by kernel_rfl
def ren_F (p:P4):Value:=cond (decide (nm (feC (ren_v11 p))%pr%2=1)) (cond (decide (nm (feC (ren_v15 p))%pr%2=1)) (.agg (byC (ren_v20 p))) (.agg (byC (ren_v24 p)))) (cond (decide (nm (feC (ren_v25 p))%pr%2=1)) (.agg (byC (ren_v29 p))) (.agg (byC (ren_v32 p))))
set_option maxHeartbeats 4000000 in
theorem ren_p (p:P4) (hp:Ok4 p):Pure Tryz.prog 43 #[.agg (ptC p)] (ren_F p):=by
  have⟨hX,hY,hZ,hT⟩:=hp
  unfold ren_F
  cases h1:(decide (nm (feC (ren_v11 p))%pr%2=1))
  · skip
    cases h2:(decide (nm (feC (ren_v25 p))%pr%2=1))
    · skip
      exact pure_of mixed Tryz.func43 _ (ren_3 p) rfl ⟨⟨⟨⟨⟨⟨⟨⟨⟨⟨⟨⟨⟨⟨⟨⟨⟨⟨⟨⟨⟨⟨⟨⟨⟨⟨⟨⟨⟨⟨⟨⟨⟨⟨⟨⟨⟨⟨⟨⟨⟨⟨⟨⟨⟨⟨⟨⟨⟨⟨⟨⟨⟨⟨⟨⟨⟨⟨⟨⟨⟨⟨⟨⟨⟨⟨⟨⟨⟨⟨⟨trivial,trivial⟩,trivial⟩,trivial⟩,trivial⟩,⟨(feD.is_enc (hp.2.2.1)),(feD.is_enc (hp.2.1))⟩⟩,trivial⟩,trivial⟩,trivial⟩,trivial⟩,⟨(feD.is_enc (hp.2.2.1)),(feD.is_enc (hp.2.1))⟩⟩,⟨(feD.is_enc (ok_mod _)),(feD.is_enc (ok_mod _))⟩⟩,one_fe _⟩,trivial⟩,trivial⟩,trivial⟩,trivial⟩,⟨(feD.is_enc (hp.1)),(feD.is_enc (hp.2.1))⟩⟩,one_fe _⟩,trivial⟩,trivial⟩,trivial⟩,⟨rfl,⟨by decide,by decide⟩⟩⟩,⟨(feD.is_enc (ok_mod _)),(feD.is_enc (ok_mod _))⟩⟩,⟨(feD.is_enc (ok_mod _)),(feD.is_enc (ok_mod _))⟩⟩,⟨(feD.is_enc (show Ok 1 from⟨by decide,by decide⟩)),(feD.is_enc (ok_mod _))⟩⟩,trivial⟩,trivial⟩,trivial⟩,one_fe _⟩,trivial⟩,trivial⟩,trivial⟩,⟨(feD.is_enc (ok_rootV _ _)),(feD.is_enc (ok_mod _))⟩⟩,trivial⟩,trivial⟩,⟨(feD.is_enc (ok_rootV _ _)),(feD.is_enc (ok_mod _))⟩⟩,one_fe _⟩,one_fe _⟩,trivial⟩,trivial⟩,⟨(feD.is_enc (ok_mod _)),(feD.is_enc (ok_mod _))⟩⟩,trivial⟩,trivial⟩,⟨(feD.is_enc (ok_mod _)),(feD.is_enc (hp.2.2.2))⟩⟩,one_fe _⟩,trivial⟩,trivial⟩,trivial⟩,trivial⟩,trivial⟩,one_fe _⟩,one_fe _⟩,one_fe _⟩,trivial⟩,trivial⟩,trivial⟩,⟨(feD.is_enc (hp.2.2.2)),(feD.is_enc (ok_mod _))⟩⟩,⟨(feD.is_enc (ok_mod _)),h1⟩⟩,trivial⟩,trivial⟩,⟨(feD.is_enc (hp.1)),(feD.is_enc (ok_mod _))⟩⟩,⟨(feD.is_enc (ok_mod _)),h2⟩⟩,trivial⟩,trivial⟩,trivial⟩,trivial⟩,⟨(feD.is_enc (hp.2.2.1)),(feD.is_enc (hp.2.1))⟩⟩,⟨(feD.is_enc (ok_mod _)),(feD.is_enc (ok_mod _))⟩⟩,(feD.is_enc (ok_mod _))⟩,(feD.is_enc (ok_absF _))⟩,byK_one _ _⟩
    · skip
      exact pure_of mixed Tryz.func43 _ (ren_2 p) rfl ⟨⟨⟨⟨⟨⟨⟨⟨⟨⟨⟨⟨⟨⟨⟨⟨⟨⟨⟨⟨⟨⟨⟨⟨⟨⟨⟨⟨⟨⟨⟨⟨⟨⟨⟨⟨⟨⟨⟨⟨⟨⟨⟨⟨⟨⟨⟨⟨⟨⟨⟨⟨⟨⟨⟨⟨⟨⟨⟨⟨⟨⟨⟨⟨⟨⟨⟨⟨⟨⟨⟨⟨⟨⟨trivial,trivial⟩,trivial⟩,trivial⟩,trivial⟩,⟨(feD.is_enc (hp.2.2.1)),(feD.is_enc (hp.2.1))⟩⟩,trivial⟩,trivial⟩,trivial⟩,trivial⟩,⟨(feD.is_enc (hp.2.2.1)),(feD.is_enc (hp.2.1))⟩⟩,⟨(feD.is_enc (ok_mod _)),(feD.is_enc (ok_mod _))⟩⟩,one_fe _⟩,trivial⟩,trivial⟩,trivial⟩,trivial⟩,⟨(feD.is_enc (hp.1)),(feD.is_enc (hp.2.1))⟩⟩,one_fe _⟩,trivial⟩,trivial⟩,trivial⟩,⟨rfl,⟨by decide,by decide⟩⟩⟩,⟨(feD.is_enc (ok_mod _)),(feD.is_enc (ok_mod _))⟩⟩,⟨(feD.is_enc (ok_mod _)),(feD.is_enc (ok_mod _))⟩⟩,⟨(feD.is_enc (show Ok 1 from⟨by decide,by decide⟩)),(feD.is_enc (ok_mod _))⟩⟩,trivial⟩,trivial⟩,trivial⟩,one_fe _⟩,trivial⟩,trivial⟩,trivial⟩,⟨(feD.is_enc (ok_rootV _ _)),(feD.is_enc (ok_mod _))⟩⟩,trivial⟩,trivial⟩,⟨(feD.is_enc (ok_rootV _ _)),(feD.is_enc (ok_mod _))⟩⟩,one_fe _⟩,one_fe _⟩,trivial⟩,trivial⟩,⟨(feD.is_enc (ok_mod _)),(feD.is_enc (ok_mod _))⟩⟩,trivial⟩,trivial⟩,⟨(feD.is_enc (ok_mod _)),(feD.is_enc (hp.2.2.2))⟩⟩,one_fe _⟩,trivial⟩,trivial⟩,trivial⟩,trivial⟩,trivial⟩,one_fe _⟩,one_fe _⟩,one_fe _⟩,trivial⟩,trivial⟩,trivial⟩,⟨(feD.is_enc (hp.2.2.2)),(feD.is_enc (ok_mod _))⟩⟩,⟨(feD.is_enc (ok_mod _)),h1⟩⟩,trivial⟩,trivial⟩,⟨(feD.is_enc (hp.1)),(feD.is_enc (ok_mod _))⟩⟩,⟨(feD.is_enc (ok_mod _)),h2⟩⟩,trivial⟩,(feD.is_enc (hp.2.1))⟩,one_fe _⟩,trivial⟩,trivial⟩,trivial⟩,trivial⟩,⟨(feD.is_enc (hp.2.2.1)),(feD.is_enc (ok_mod _))⟩⟩,⟨(feD.is_enc (ok_mod _)),(feD.is_enc (ok_mod _))⟩⟩,(feD.is_enc (ok_mod _))⟩,(feD.is_enc (ok_absF _))⟩,byK_one _ _⟩
  · skip
    cases h2:(decide (nm (feC (ren_v15 p))%pr%2=1))
    · skip
      exact pure_of mixed Tryz.func43 _ (ren_1 p) rfl ⟨⟨⟨⟨⟨⟨⟨⟨⟨⟨⟨⟨⟨⟨⟨⟨⟨⟨⟨⟨⟨⟨⟨⟨⟨⟨⟨⟨⟨⟨⟨⟨⟨⟨⟨⟨⟨⟨⟨⟨⟨⟨⟨⟨⟨⟨⟨⟨⟨⟨⟨⟨⟨⟨⟨⟨⟨⟨⟨⟨⟨⟨⟨⟨⟨⟨⟨⟨⟨⟨⟨⟨⟨⟨⟨⟨⟨⟨⟨⟨⟨⟨⟨trivial,trivial⟩,trivial⟩,trivial⟩,trivial⟩,⟨(feD.is_enc (hp.2.2.1)),(feD.is_enc (hp.2.1))⟩⟩,trivial⟩,trivial⟩,trivial⟩,trivial⟩,⟨(feD.is_enc (hp.2.2.1)),(feD.is_enc (hp.2.1))⟩⟩,⟨(feD.is_enc (ok_mod _)),(feD.is_enc (ok_mod _))⟩⟩,one_fe _⟩,trivial⟩,trivial⟩,trivial⟩,trivial⟩,⟨(feD.is_enc (hp.1)),(feD.is_enc (hp.2.1))⟩⟩,one_fe _⟩,trivial⟩,trivial⟩,trivial⟩,⟨rfl,⟨by decide,by decide⟩⟩⟩,⟨(feD.is_enc (ok_mod _)),(feD.is_enc (ok_mod _))⟩⟩,⟨(feD.is_enc (ok_mod _)),(feD.is_enc (ok_mod _))⟩⟩,⟨(feD.is_enc (show Ok 1 from⟨by decide,by decide⟩)),(feD.is_enc (ok_mod _))⟩⟩,trivial⟩,trivial⟩,trivial⟩,one_fe _⟩,trivial⟩,trivial⟩,trivial⟩,⟨(feD.is_enc (ok_rootV _ _)),(feD.is_enc (ok_mod _))⟩⟩,trivial⟩,trivial⟩,⟨(feD.is_enc (ok_rootV _ _)),(feD.is_enc (ok_mod _))⟩⟩,one_fe _⟩,one_fe _⟩,trivial⟩,trivial⟩,⟨(feD.is_enc (ok_mod _)),(feD.is_enc (ok_mod _))⟩⟩,trivial⟩,trivial⟩,⟨(feD.is_enc (ok_mod _)),(feD.is_enc (hp.2.2.2))⟩⟩,one_fe _⟩,trivial⟩,trivial⟩,trivial⟩,trivial⟩,trivial⟩,one_fe _⟩,one_fe _⟩,one_fe _⟩,trivial⟩,trivial⟩,trivial⟩,⟨(feD.is_enc (hp.2.2.2)),(feD.is_enc (ok_mod _))⟩⟩,⟨(feD.is_enc (ok_mod _)),h1⟩⟩,trivial⟩,trivial⟩,⟨(feD.is_enc (ok_iNum)),(feD.is_enc (hp.2.1))⟩⟩,trivial⟩,trivial⟩,⟨(feD.is_enc (ok_iNum)),(feD.is_enc (hp.1))⟩⟩,one_fe _⟩,one_fe _⟩,trivial⟩,trivial⟩,⟨(feD.is_enc (ok_mod _)),(feD.is_enc (ok_nNum))⟩⟩,one_fe _⟩,trivial⟩,trivial⟩,⟨(feD.is_enc (ok_mod _)),(feD.is_enc (ok_mod _))⟩⟩,⟨(feD.is_enc (ok_mod _)),h2⟩⟩,trivial⟩,trivial⟩,trivial⟩,trivial⟩,⟨(feD.is_enc (hp.2.2.1)),(feD.is_enc (ok_mod _))⟩⟩,⟨(feD.is_enc (ok_mod _)),(feD.is_enc (ok_mod _))⟩⟩,(feD.is_enc (ok_mod _))⟩,(feD.is_enc (ok_absF _))⟩,byK_one _ _⟩
    · skip
      exact pure_of mixed Tryz.func43 _ (ren_0 p) rfl ⟨⟨⟨⟨⟨⟨⟨⟨⟨⟨⟨⟨⟨⟨⟨⟨⟨⟨⟨⟨⟨⟨⟨⟨⟨⟨⟨⟨⟨⟨⟨⟨⟨⟨⟨⟨⟨⟨⟨⟨⟨⟨⟨⟨⟨⟨⟨⟨⟨⟨⟨⟨⟨⟨⟨⟨⟨⟨⟨⟨⟨⟨⟨⟨⟨⟨⟨⟨⟨⟨⟨⟨⟨⟨⟨⟨⟨⟨⟨⟨⟨⟨⟨⟨⟨⟨trivial,trivial⟩,trivial⟩,trivial⟩,trivial⟩,⟨(feD.is_enc (hp.2.2.1)),(feD.is_enc (hp.2.1))⟩⟩,trivial⟩,trivial⟩,trivial⟩,trivial⟩,⟨(feD.is_enc (hp.2.2.1)),(feD.is_enc (hp.2.1))⟩⟩,⟨(feD.is_enc (ok_mod _)),(feD.is_enc (ok_mod _))⟩⟩,one_fe _⟩,trivial⟩,trivial⟩,trivial⟩,trivial⟩,⟨(feD.is_enc (hp.1)),(feD.is_enc (hp.2.1))⟩⟩,one_fe _⟩,trivial⟩,trivial⟩,trivial⟩,⟨rfl,⟨by decide,by decide⟩⟩⟩,⟨(feD.is_enc (ok_mod _)),(feD.is_enc (ok_mod _))⟩⟩,⟨(feD.is_enc (ok_mod _)),(feD.is_enc (ok_mod _))⟩⟩,⟨(feD.is_enc (show Ok 1 from⟨by decide,by decide⟩)),(feD.is_enc (ok_mod _))⟩⟩,trivial⟩,trivial⟩,trivial⟩,one_fe _⟩,trivial⟩,trivial⟩,trivial⟩,⟨(feD.is_enc (ok_rootV _ _)),(feD.is_enc (ok_mod _))⟩⟩,trivial⟩,trivial⟩,⟨(feD.is_enc (ok_rootV _ _)),(feD.is_enc (ok_mod _))⟩⟩,one_fe _⟩,one_fe _⟩,trivial⟩,trivial⟩,⟨(feD.is_enc (ok_mod _)),(feD.is_enc (ok_mod _))⟩⟩,trivial⟩,trivial⟩,⟨(feD.is_enc (ok_mod _)),(feD.is_enc (hp.2.2.2))⟩⟩,one_fe _⟩,trivial⟩,trivial⟩,trivial⟩,trivial⟩,trivial⟩,one_fe _⟩,one_fe _⟩,one_fe _⟩,trivial⟩,trivial⟩,trivial⟩,⟨(feD.is_enc (hp.2.2.2)),(feD.is_enc (ok_mod _))⟩⟩,⟨(feD.is_enc (ok_mod _)),h1⟩⟩,trivial⟩,trivial⟩,⟨(feD.is_enc (ok_iNum)),(feD.is_enc (hp.2.1))⟩⟩,trivial⟩,trivial⟩,⟨(feD.is_enc (ok_iNum)),(feD.is_enc (hp.1))⟩⟩,one_fe _⟩,one_fe _⟩,trivial⟩,trivial⟩,⟨(feD.is_enc (ok_mod _)),(feD.is_enc (ok_nNum))⟩⟩,one_fe _⟩,trivial⟩,trivial⟩,⟨(feD.is_enc (ok_mod _)),(feD.is_enc (ok_mod _))⟩⟩,⟨(feD.is_enc (ok_mod _)),h2⟩⟩,trivial⟩,(feD.is_enc (ok_mod _))⟩,one_fe _⟩,trivial⟩,trivial⟩,trivial⟩,trivial⟩,⟨(feD.is_enc (hp.2.2.1)),(feD.is_enc (ok_mod _))⟩⟩,⟨(feD.is_enc (ok_mod _)),(feD.is_enc (ok_mod _))⟩⟩,(feD.is_enc (ok_mod _))⟩,(feD.is_enc (ok_absF _))⟩,byK_one _ _⟩
def ren_S (p:P4):Value:=cond (decide ((ren_u11 p)%pr%2=1)) (cond (decide ((ren_u15 p)%pr%2=1)) (.agg (byC (ren_u20 p))) (.agg (byC (ren_u24 p)))) (cond (decide ((ren_u25 p)%pr%2=1)) (.agg (byC (ren_u29 p))) (.agg (byC (ren_u32 p))))
theorem ren_e (p:P4) (hp:Ok4 p):ren_F p=ren_S p:=by
  have⟨hX,hY,hZ,hT⟩:=hp
  unfold ren_F ren_S
  try simp only[nm_mod,nn_mod,nm_inv,nn_inv,nm_d,nn_d,nm_1,nn_1,nm_root,nn_quo,nm_feC _ hX,nm_feC _ hY,nm_feC _ hZ,nm_feC _ hT,nm_i,nm_n,nm_abs,ren_x0 p hp,ren_x1 p hp,ren_x2 p hp,ren_x3 p hp,ren_x4 p hp,ren_x5 p hp,ren_x6 p hp,ren_x7 p hp,ren_x8 p hp,ren_x9 p hp,ren_x10 p hp,ren_x11 p hp,ren_x12 p hp,ren_x13 p hp,ren_x14 p hp,ren_x15 p hp,ren_x16 p hp,ren_x17 p hp,ren_x18 p hp,ren_x19 p hp,ren_x20 p hp,ren_x21 p hp,ren_x22 p hp,ren_x23 p hp,ren_x24 p hp,ren_x25 p hp,ren_x26 p hp,ren_x27 p hp,ren_x28 p hp,ren_x29 p hp,ren_x30 p hp,ren_x31 p hp,ren_x32 p hp]
  try simp only[ren_w0 p hp,ren_w1 p hp,ren_w2 p hp,ren_w3 p hp,ren_w4 p hp,ren_w5 p hp,ren_w6 p hp,ren_w7 p hp,ren_w8 p hp,ren_w9 p hp,ren_w10 p hp,ren_w11 p hp,ren_w12 p hp,ren_w13 p hp,ren_w14 p hp,ren_w15 p hp,ren_w16 p hp,ren_w17 p hp,ren_w18 p hp,ren_w19 p hp,ren_w20 p hp,ren_w21 p hp,ren_w22 p hp,ren_w23 p hp,ren_w24 p hp,ren_w25 p hp,ren_w26 p hp,ren_w27 p hp,ren_w28 p hp,ren_w29 p hp,ren_w30 p hp,ren_w31 p hp,ren_w32 p hp]
theorem mod_fp (x:Int):x%pr=((fp x).val:Int):=(fp_val x).symm
def encI (p:P4):Int:=((encE (fp p.X) (fp p.Y) (fp p.Z) (fp p.T)).val:Int)
theorem fval_bd (z:Fp):0≤(z.val:Int)∧(z.val:Int)<pr:=⟨Int.natCast_nonneg _,by rw[pr_natM];exact Int.ofNat_lt.2 z.isLt⟩
theorem ok_encI (p:P4):Ok (encI p):=ok_pr (fval_bd _)
theorem cagg (b:Bool) (x y:Fp):cond b (Value.agg (byC (x.val:Int))) (.agg (byC (y.val:Int)))= .agg (byC ((cond b x y).val:Int)):=by cases b<;>rfl
theorem fp_i:fp iNum=iE:=rfl
theorem fp_n:fp nNum=nE:=rfl
theorem fp_dd:fp dN=dE:=rfl
theorem aggm (x:Int):Value.agg (byC (absF x%pr))= .agg (byC ((ab (fp x)).val:Int)):=by rw[mod_fp,fp_absF]
theorem ren_eq (p:P4):ren_S p= .agg (byC (encI p)):=by
  unfold ren_S
  delta ren_u0 ren_u1 ren_u2 ren_u3 ren_u4 ren_u5 ren_u6 ren_u7 ren_u8 ren_u9 ren_u10 ren_u11 ren_u12 ren_u13 ren_u14 ren_u15 ren_u16 ren_u17 ren_u18 ren_u19 ren_u20 ren_u21 ren_u22 ren_u23 ren_u24 ren_u25 ren_u26 ren_u27 ren_u28 ren_u29 ren_u30 ren_u31 ren_u32
  simp only[ob_fp,aggm,fp_mod,fp_mul,fp_add,fp_sub,fp_neg,fp_rootV,fp_one,fp_i,fp_n,cagg]
  unfold encI encE encR encC
  rfl
theorem Encode_c (p:P4) (hp:Ok4 p):Pure Tryz.prog 43 #[.agg (ptC p)] (.agg (byC (encI p))):=by
  have h:=ren_p p hp
  rwa[ren_e p hp,ren_eq] at h
def pEnc:Entry Tryz.prog:=ent1 Tryz.func43 (by kernel_rfl) (by kernel_rfl) ptD (fun p=> .agg (byC (encI p))) Encode_c
theorem enc_repP {p:P4} {a:Pt} (h:RepP p a):encI p=((enc a).val:Int):=by unfold encI;rw[enc_rep h.2]
end Go.Proofs.YtdebkddhpogkgaaGreat

set_option linter.unusedSimpArgs false
set_option linter.unusedVariables false
namespace Go.Proofs.YtdebkddhpogkgaaGreat
open Go.RowKit Go.Ev
theorem nm_z:nm (feC 0)=0:=nm_feC _ ok_0
def rde_v0 (n:Int):Int:=nm (feC (db (byC n)%pr))*nm (feC (db (byC n)%pr))%pr
def rde_u0 (n:Int):Int:=(n%pr)*(n%pr)%pr
theorem rde_w0 (n:Int) (hn:Ok n):rde_v0 n=rde_u0 n:=by
  unfold rde_v0 rde_u0
  simp only[nm_mod,nn_mod,nm_inv,nn_inv,nm_d,nn_d,nm_1,nn_1,nm_root,nn_quo,db_byC _ hn,nm_i,nm_n,nm_abs,nm_z]
theorem rde_x0 (n:Int) (hn:Ok n):nm (feC (rde_v0 n))=rde_u0 n:=by
  exact(nm_feC _ (ok_mod _)).trans (rde_w0 n hn)
def rde_v1 (n:Int):Int:=(nm (feC 1) - nm (feC (rde_v0 n)))%pr
def rde_u1 (n:Int):Int:=(1 - (rde_u0 n))%pr
theorem rde_w1 (n:Int) (hn:Ok n):rde_v1 n=rde_u1 n:=by
  unfold rde_v1 rde_u1
  simp only[nm_mod,nn_mod,nm_inv,nn_inv,nm_d,nn_d,nm_1,nn_1,nm_root,nn_quo,db_byC _ hn,nm_i,nm_n,nm_abs,nm_z,rde_x0 n hn]
theorem rde_x1 (n:Int) (hn:Ok n):nm (feC (rde_v1 n))=rde_u1 n:=by
  exact(nm_feC _ (ok_mod _)).trans (rde_w1 n hn)
def rde_v2 (n:Int):Int:=(nm (feC 1)+nm (feC (rde_v0 n)))%pr
def rde_u2 (n:Int):Int:=(1+(rde_u0 n))%pr
theorem rde_w2 (n:Int) (hn:Ok n):rde_v2 n=rde_u2 n:=by
  unfold rde_v2 rde_u2
  simp only[nm_mod,nn_mod,nm_inv,nn_inv,nm_d,nn_d,nm_1,nn_1,nm_root,nn_quo,db_byC _ hn,nm_i,nm_n,nm_abs,nm_z,rde_x0 n hn]
theorem rde_x2 (n:Int) (hn:Ok n):nm (feC (rde_v2 n))=rde_u2 n:=by
  exact(nm_feC _ (ok_mod _)).trans (rde_w2 n hn)
def rde_v3 (n:Int):Int:=nm (feC (rde_v2 n))*nm (feC (rde_v2 n))%pr
def rde_u3 (n:Int):Int:=(rde_u2 n)*(rde_u2 n)%pr
theorem rde_w3 (n:Int) (hn:Ok n):rde_v3 n=rde_u3 n:=by
  unfold rde_v3 rde_u3
  simp only[nm_mod,nn_mod,nm_inv,nn_inv,nm_d,nn_d,nm_1,nn_1,nm_root,nn_quo,db_byC _ hn,nm_i,nm_n,nm_abs,nm_z,rde_x2 n hn]
theorem rde_x3 (n:Int) (hn:Ok n):nm (feC (rde_v3 n))=rde_u3 n:=by
  exact(nm_feC _ (ok_mod _)).trans (rde_w3 n hn)
def rde_v4 (n:Int):Int:=nm (feC (rde_v1 n))*nm (feC (rde_v1 n))%pr
def rde_u4 (n:Int):Int:=(rde_u1 n)*(rde_u1 n)%pr
theorem rde_w4 (n:Int) (hn:Ok n):rde_v4 n=rde_u4 n:=by
  unfold rde_v4 rde_u4
  simp only[nm_mod,nn_mod,nm_inv,nn_inv,nm_d,nn_d,nm_1,nn_1,nm_root,nn_quo,db_byC _ hn,nm_i,nm_n,nm_abs,nm_z,rde_x1 n hn]
theorem rde_x4 (n:Int) (hn:Ok n):nm (feC (rde_v4 n))=rde_u4 n:=by
  exact(nm_feC _ (ok_mod _)).trans (rde_w4 n hn)
def rde_v5 (n:Int):Int:=nm (feC dN)*nm (feC (rde_v4 n))%pr
def rde_u5 (n:Int):Int:=dN*(rde_u4 n)%pr
theorem rde_w5 (n:Int) (hn:Ok n):rde_v5 n=rde_u5 n:=by
  unfold rde_v5 rde_u5
  simp only[nm_mod,nn_mod,nm_inv,nn_inv,nm_d,nn_d,nm_1,nn_1,nm_root,nn_quo,db_byC _ hn,nm_i,nm_n,nm_abs,nm_z,rde_x4 n hn]
theorem rde_x5 (n:Int) (hn:Ok n):nm (feC (rde_v5 n))=rde_u5 n:=by
  exact(nm_feC _ (ok_mod _)).trans (rde_w5 n hn)
def rde_v6 (n:Int):Int:=(nm (feC (rde_v5 n))+nm (feC (rde_v3 n)))%pr
def rde_u6 (n:Int):Int:=((rde_u5 n)+(rde_u3 n))%pr
theorem rde_w6 (n:Int) (hn:Ok n):rde_v6 n=rde_u6 n:=by
  unfold rde_v6 rde_u6
  simp only[nm_mod,nn_mod,nm_inv,nn_inv,nm_d,nn_d,nm_1,nn_1,nm_root,nn_quo,db_byC _ hn,nm_i,nm_n,nm_abs,nm_z,rde_x3 n hn,rde_x5 n hn]
theorem rde_x6 (n:Int) (hn:Ok n):nm (feC (rde_v6 n))=rde_u6 n:=by
  exact(nm_feC _ (ok_mod _)).trans (rde_w6 n hn)
def rde_v7 (n:Int):Int:= -(nm (feC (rde_v6 n)))%pr
def rde_u7 (n:Int):Int:= -((rde_u6 n))%pr
theorem rde_w7 (n:Int) (hn:Ok n):rde_v7 n=rde_u7 n:=by
  unfold rde_v7 rde_u7
  simp only[nm_mod,nn_mod,nm_inv,nn_inv,nm_d,nn_d,nm_1,nn_1,nm_root,nn_quo,db_byC _ hn,nm_i,nm_n,nm_abs,nm_z,rde_x6 n hn]
theorem rde_x7 (n:Int) (hn:Ok n):nm (feC (rde_v7 n))=rde_u7 n:=by
  exact(nm_feC _ (ok_mod _)).trans (rde_w7 n hn)
def rde_v8 (n:Int):Int:=nm (feC (rde_v7 n))*nm (feC (rde_v3 n))%pr
def rde_u8 (n:Int):Int:=(rde_u7 n)*(rde_u3 n)%pr
theorem rde_w8 (n:Int) (hn:Ok n):rde_v8 n=rde_u8 n:=by
  unfold rde_v8 rde_u8
  simp only[nm_mod,nn_mod,nm_inv,nn_inv,nm_d,nn_d,nm_1,nn_1,nm_root,nn_quo,db_byC _ hn,nm_i,nm_n,nm_abs,nm_z,rde_x3 n hn,rde_x7 n hn]
theorem rde_x8 (n:Int) (hn:Ok n):nm (feC (rde_v8 n))=rde_u8 n:=by
  exact(nm_feC _ (ok_mod _)).trans (rde_w8 n hn)
def rde_v9 (n:Int):Int:=rootV (nm (feC 1)) (nm (feC (rde_v8 n)))
def rde_u9 (n:Int):Int:=rootV (1) ((rde_u8 n))
theorem rde_w9 (n:Int) (hn:Ok n):rde_v9 n=rde_u9 n:=by
  unfold rde_v9 rde_u9
  simp only[nm_mod,nn_mod,nm_inv,nn_inv,nm_d,nn_d,nm_1,nn_1,nm_root,nn_quo,db_byC _ hn,nm_i,nm_n,nm_abs,nm_z,rde_x8 n hn]
theorem rde_x9 (n:Int) (hn:Ok n):nm (feC (rde_v9 n))=rde_u9 n:=by
  exact(nm_feC _ (ok_rootV _ _)).trans (rde_w9 n hn)
def rde_v10 (n:Int):Int:=nm (feC (rde_v9 n))*nm (feC (rde_v2 n))%pr
def rde_u10 (n:Int):Int:=(rde_u9 n)*(rde_u2 n)%pr
theorem rde_w10 (n:Int) (hn:Ok n):rde_v10 n=rde_u10 n:=by
  unfold rde_v10 rde_u10
  simp only[nm_mod,nn_mod,nm_inv,nn_inv,nm_d,nn_d,nm_1,nn_1,nm_root,nn_quo,db_byC _ hn,nm_i,nm_n,nm_abs,nm_z,rde_x2 n hn,rde_x9 n hn]
theorem rde_x10 (n:Int) (hn:Ok n):nm (feC (rde_v10 n))=rde_u10 n:=by
  exact(nm_feC _ (ok_mod _)).trans (rde_w10 n hn)
def rde_v11 (n:Int):Int:=(nm (feC (db (byC n)%pr))+nm (feC (db (byC n)%pr)))%pr
def rde_u11 (n:Int):Int:=((n%pr)+(n%pr))%pr
theorem rde_w11 (n:Int) (hn:Ok n):rde_v11 n=rde_u11 n:=by
  unfold rde_v11 rde_u11
  simp only[nm_mod,nn_mod,nm_inv,nn_inv,nm_d,nn_d,nm_1,nn_1,nm_root,nn_quo,db_byC _ hn,nm_i,nm_n,nm_abs,nm_z]
theorem rde_x11 (n:Int) (hn:Ok n):nm (feC (rde_v11 n))=rde_u11 n:=by
  exact(nm_feC _ (ok_mod _)).trans (rde_w11 n hn)
def rde_v12 (n:Int):Int:=nm (feC (rde_v11 n))*nm (feC (rde_v10 n))%pr
def rde_u12 (n:Int):Int:=(rde_u11 n)*(rde_u10 n)%pr
theorem rde_w12 (n:Int) (hn:Ok n):rde_v12 n=rde_u12 n:=by
  unfold rde_v12 rde_u12
  simp only[nm_mod,nn_mod,nm_inv,nn_inv,nm_d,nn_d,nm_1,nn_1,nm_root,nn_quo,db_byC _ hn,nm_i,nm_n,nm_abs,nm_z,rde_x10 n hn,rde_x11 n hn]
theorem rde_x12 (n:Int) (hn:Ok n):nm (feC (rde_v12 n))=rde_u12 n:=by
  exact(nm_feC _ (ok_mod _)).trans (rde_w12 n hn)
def rde_v13 (n:Int):Int:=absF (nm (feC (rde_v12 n)))
def rde_u13 (n:Int):Int:=absF ((rde_u12 n))
theorem rde_w13 (n:Int) (hn:Ok n):rde_v13 n=rde_u13 n:=by
  unfold rde_v13 rde_u13
  simp only[nm_mod,nn_mod,nm_inv,nn_inv,nm_d,nn_d,nm_1,nn_1,nm_root,nn_quo,db_byC _ hn,nm_i,nm_n,nm_abs,nm_z,rde_x12 n hn]
theorem rde_x13 (n:Int) (hn:Ok n):nm (feC (rde_v13 n))=rde_u13 n:=by
  exact(nm_feC _ (ok_absF _)).trans (rde_w13 n hn)
def rde_v14 (n:Int):Int:=nm (feC (rde_v9 n))*nm (feC (rde_v10 n))%pr
def rde_u14 (n:Int):Int:=(rde_u9 n)*(rde_u10 n)%pr
theorem rde_w14 (n:Int) (hn:Ok n):rde_v14 n=rde_u14 n:=by
  unfold rde_v14 rde_u14
  simp only[nm_mod,nn_mod,nm_inv,nn_inv,nm_d,nn_d,nm_1,nn_1,nm_root,nn_quo,db_byC _ hn,nm_i,nm_n,nm_abs,nm_z,rde_x9 n hn,rde_x10 n hn]
theorem rde_x14 (n:Int) (hn:Ok n):nm (feC (rde_v14 n))=rde_u14 n:=by
  exact(nm_feC _ (ok_mod _)).trans (rde_w14 n hn)
def rde_v15 (n:Int):Int:=nm (feC (rde_v14 n))*nm (feC (rde_v7 n))%pr
def rde_u15 (n:Int):Int:=(rde_u14 n)*(rde_u7 n)%pr
theorem rde_w15 (n:Int) (hn:Ok n):rde_v15 n=rde_u15 n:=by
  unfold rde_v15 rde_u15
  simp only[nm_mod,nn_mod,nm_inv,nn_inv,nm_d,nn_d,nm_1,nn_1,nm_root,nn_quo,db_byC _ hn,nm_i,nm_n,nm_abs,nm_z,rde_x7 n hn,rde_x14 n hn]
theorem rde_x15 (n:Int) (hn:Ok n):nm (feC (rde_v15 n))=rde_u15 n:=by
  exact(nm_feC _ (ok_mod _)).trans (rde_w15 n hn)
def rde_v16 (n:Int):Int:=nm (feC (rde_v1 n))*nm (feC (rde_v15 n))%pr
def rde_u16 (n:Int):Int:=(rde_u1 n)*(rde_u15 n)%pr
theorem rde_w16 (n:Int) (hn:Ok n):rde_v16 n=rde_u16 n:=by
  unfold rde_v16 rde_u16
  simp only[nm_mod,nn_mod,nm_inv,nn_inv,nm_d,nn_d,nm_1,nn_1,nm_root,nn_quo,db_byC _ hn,nm_i,nm_n,nm_abs,nm_z,rde_x1 n hn,rde_x15 n hn]
theorem rde_x16 (n:Int) (hn:Ok n):nm (feC (rde_v16 n))=rde_u16 n:=by
  exact(nm_feC _ (ok_mod _)).trans (rde_w16 n hn)
def rde_v17 (n:Int):Int:=nm (feC (rde_v13 n))*nm (feC (rde_v16 n))%pr
def rde_u17 (n:Int):Int:=(rde_u13 n)*(rde_u16 n)%pr
theorem rde_w17 (n:Int) (hn:Ok n):rde_v17 n=rde_u17 n:=by
  unfold rde_v17 rde_u17
  simp only[nm_mod,nn_mod,nm_inv,nn_inv,nm_d,nn_d,nm_1,nn_1,nm_root,nn_quo,db_byC _ hn,nm_i,nm_n,nm_abs,nm_z,rde_x13 n hn,rde_x16 n hn]
theorem rde_x17 (n:Int) (hn:Ok n):nm (feC (rde_v17 n))=rde_u17 n:=by
  exact(nm_feC _ (ok_mod _)).trans (rde_w17 n hn)
def rde_h (i:Nat):Hn:=if i=6 then⟨8,[],[],[],[]⟩ else if i=8 then⟨9,[],[],[],[]⟩ else if i=9 then⟨8,[(0,true),(1,true),(2,true),(3,false),(4,false),(5,true),(6,true),(7,true)],[(9,false),(10,false)],[],[]⟩ else if i=11 then⟨7,[],[],[],[]⟩ else if i=12 then⟨8,[],[],[],[]⟩ else if i=14 then⟨11,[],[],[],[]⟩ else⟨0,[],[],[],[]⟩
theorem rde_0 (n:Int):evF (yty.en tab12) rde_h Tryz.f41 [.agg (byC n)] [some (.bool true),some (.bool true)]=some (.tuple #[.agg (ptC (⟨0,0,0,0⟩:P4)),.bool false],(((((((((((((((((True∧True)∧True)∧byD.is (byC n))∧True)∧True)∧(True∧(decide (db (byC n)%pr=db (byC n)))=true))∧((feC (db (byC n)%pr)).all (fun v=>v.oneCell')=true))∧True)∧True)∧True)∧True)∧True)∧(feD.is (feC (db (byC n)%pr))∧(decide (nm (feC (db (byC n)%pr))%pr%2=1))=true))∧True)∧True)∧((ptC (⟨0,0,0,0⟩:P4)).all (fun v=>v.oneCell')=true))∧True)):=by kernel_rfl
theorem rde_1 (n:Int):evF (yty.en tab12) rde_h Tryz.f41 [.agg (byC n)] [some (.bool true),some (.bool false),some (.bool true),some (.bool true)]=some (.tuple #[.agg (ptC (⟨0,0,0,0⟩:P4)),.bool false],(((((((((((((((((((((((((((((((((((((((((((((((((((((((((((((((((((((((((((((((((((((True∧True)∧True)∧byD.is (byC n))∧True)∧True)∧(True∧(decide (db (byC n)%pr=db (byC n)))=true))∧((feC (db (byC n)%pr)).all (fun v=>v.oneCell')=true))∧True)∧True)∧True)∧True)∧True)∧(feD.is (feC (db (byC n)%pr))∧(decide (nm (feC (db (byC n)%pr))%pr%2=1))=false))∧True)∧(IntKind.u64=IntKind.u64∧w64 1))∧((feC 1).all (fun v=>v.oneCell')=true))∧True)∧True)∧(feD.is (feC (db (byC n)%pr))∧feD.is (feC (db (byC n)%pr))))∧((feC (rde_v0 n)).all (fun v=>v.oneCell')=true))∧True)∧True)∧(feD.is (feC 1)∧feD.is (feC (rde_v0 n))))∧True)∧True)∧(feD.is (feC 1)∧feD.is (feC (rde_v0 n))))∧((feC (rde_v1 n)).all (fun v=>v.oneCell')=true))∧((feC (rde_v2 n)).all (fun v=>v.oneCell')=true))∧True)∧True)∧(feD.is (feC (rde_v2 n))∧feD.is (feC (rde_v2 n))))∧((feC (rde_v3 n)).all (fun v=>v.oneCell')=true))∧True)∧True)∧True)∧(feD.is (feC (rde_v1 n))∧feD.is (feC (rde_v1 n))))∧(feD.is (feC dN)∧feD.is (feC (rde_v4 n))))∧True)∧(feD.is (feC (rde_v5 n))∧feD.is (feC (rde_v3 n))))∧feD.is (feC (rde_v6 n)))∧((feC (rde_v7 n)).all (fun v=>v.oneCell')=true))∧True)∧True)∧True)∧(feD.is (feC (rde_v7 n))∧feD.is (feC (rde_v3 n))))∧(feD.is (feC 1)∧feD.is (feC (rde_v8 n))))∧True)∧True)∧(True∧(rootB (nm (feC 1)) (nm (feC (rde_v8 n))))=true))∧((feC (rde_v9 n)).all (fun v=>v.oneCell')=true))∧True)∧True)∧True)∧(feD.is (feC (rde_v9 n))∧feD.is (feC (rde_v2 n))))∧((feC (rde_v10 n)).all (fun v=>v.oneCell')=true))∧True)∧True)∧(feD.is (feC (db (byC n)%pr))∧feD.is (feC (db (byC n)%pr))))∧True)∧(feD.is (feC (rde_v11 n))∧feD.is (feC (rde_v10 n))))∧feD.is (feC (rde_v12 n)))∧((feC (rde_v13 n)).all (fun v=>v.oneCell')=true))∧True)∧True)∧True)∧(feD.is (feC (rde_v9 n))∧feD.is (feC (rde_v10 n))))∧True)∧(feD.is (feC (rde_v14 n))∧feD.is (feC (rde_v7 n))))∧(feD.is (feC (rde_v1 n))∧feD.is (feC (rde_v15 n))))∧((feC (rde_v16 n)).all (fun v=>v.oneCell')=true))∧True)∧True)∧(feD.is (feC (rde_v13 n))∧feD.is (feC (rde_v16 n))))∧((feC (rde_v17 n)).all (fun v=>v.oneCell')=true))∧True)∧True)∧True)∧True)∧(feD.is (feC (rde_v17 n))∧(decide (nm (feC (rde_v17 n))%pr%2=1))=true))∧True)∧True)∧True)∧True)∧((ptC (⟨0,0,0,0⟩:P4)).all (fun v=>v.oneCell')=true))∧True)):=by kernel_rfl
theorem rde_2 (n:Int):evF (yty.en tab12) rde_h Tryz.f41 [.agg (byC n)] [some (.bool true),some (.bool false),some (.bool true),some (.bool false),some (.bool true)]=some (.tuple #[.agg (ptC (⟨0,0,0,0⟩:P4)),.bool false],((((((((((((((((((((((((((((((((((((((((((((((((((((((((((((((((((((((((((((((((((((((((True∧True)∧True)∧byD.is (byC n))∧True)∧True)∧(True∧(decide (db (byC n)%pr=db (byC n)))=true))∧((feC (db (byC n)%pr)).all (fun v=>v.oneCell')=true))∧True)∧True)∧True)∧True)∧True)∧(feD.is (feC (db (byC n)%pr))∧(decide (nm (feC (db (byC n)%pr))%pr%2=1))=false))∧True)∧(IntKind.u64=IntKind.u64∧w64 1))∧((feC 1).all (fun v=>v.oneCell')=true))∧True)∧True)∧(feD.is (feC (db (byC n)%pr))∧feD.is (feC (db (byC n)%pr))))∧((feC (rde_v0 n)).all (fun v=>v.oneCell')=true))∧True)∧True)∧(feD.is (feC 1)∧feD.is (feC (rde_v0 n))))∧True)∧True)∧(feD.is (feC 1)∧feD.is (feC (rde_v0 n))))∧((feC (rde_v1 n)).all (fun v=>v.oneCell')=true))∧((feC (rde_v2 n)).all (fun v=>v.oneCell')=true))∧True)∧True)∧(feD.is (feC (rde_v2 n))∧feD.is (feC (rde_v2 n))))∧((feC (rde_v3 n)).all (fun v=>v.oneCell')=true))∧True)∧True)∧True)∧(feD.is (feC (rde_v1 n))∧feD.is (feC (rde_v1 n))))∧(feD.is (feC dN)∧feD.is (feC (rde_v4 n))))∧True)∧(feD.is (feC (rde_v5 n))∧feD.is (feC (rde_v3 n))))∧feD.is (feC (rde_v6 n)))∧((feC (rde_v7 n)).all (fun v=>v.oneCell')=true))∧True)∧True)∧True)∧(feD.is (feC (rde_v7 n))∧feD.is (feC (rde_v3 n))))∧(feD.is (feC 1)∧feD.is (feC (rde_v8 n))))∧True)∧True)∧(True∧(rootB (nm (feC 1)) (nm (feC (rde_v8 n))))=true))∧((feC (rde_v9 n)).all (fun v=>v.oneCell')=true))∧True)∧True)∧True)∧(feD.is (feC (rde_v9 n))∧feD.is (feC (rde_v2 n))))∧((feC (rde_v10 n)).all (fun v=>v.oneCell')=true))∧True)∧True)∧(feD.is (feC (db (byC n)%pr))∧feD.is (feC (db (byC n)%pr))))∧True)∧(feD.is (feC (rde_v11 n))∧feD.is (feC (rde_v10 n))))∧feD.is (feC (rde_v12 n)))∧((feC (rde_v13 n)).all (fun v=>v.oneCell')=true))∧True)∧True)∧True)∧(feD.is (feC (rde_v9 n))∧feD.is (feC (rde_v10 n))))∧True)∧(feD.is (feC (rde_v14 n))∧feD.is (feC (rde_v7 n))))∧(feD.is (feC (rde_v1 n))∧feD.is (feC (rde_v15 n))))∧((feC (rde_v16 n)).all (fun v=>v.oneCell')=true))∧True)∧True)∧(feD.is (feC (rde_v13 n))∧feD.is (feC (rde_v16 n))))∧((feC (rde_v17 n)).all (fun v=>v.oneCell')=true))∧True)∧True)∧True)∧True)∧(feD.is (feC (rde_v17 n))∧(decide (nm (feC (rde_v17 n))%pr%2=1))=false))∧True)∧True)∧True)∧(IntKind.u64=IntKind.u64∧w64 0))∧((feD.is (feC (rde_v16 n))∧feD.is (feC 0))∧(decide (nm (feC (rde_v16 n))%pr=nm (feC 0)%pr))=true))∧True)∧True)∧((ptC (⟨0,0,0,0⟩:P4)).all (fun v=>v.oneCell')=true))∧True)):=by kernel_rfl
theorem rde_3 (n:Int):evF (yty.en tab12) rde_h Tryz.f41 [.agg (byC n)] [some (.bool true),some (.bool false),some (.bool true),some (.bool false),some (.bool false)]=some (.tuple #[.agg (ptC (⟨(rde_v13 n),(rde_v16 n),1,(rde_v17 n)⟩:P4)),.bool true],((((((((((((((((((((((((((((((((((((((((((((((((((((((((((((((((((((((((((((((((((((((((((((True∧True)∧True)∧byD.is (byC n))∧True)∧True)∧(True∧(decide (db (byC n)%pr=db (byC n)))=true))∧((feC (db (byC n)%pr)).all (fun v=>v.oneCell')=true))∧True)∧True)∧True)∧True)∧True)∧(feD.is (feC (db (byC n)%pr))∧(decide (nm (feC (db (byC n)%pr))%pr%2=1))=false))∧True)∧(IntKind.u64=IntKind.u64∧w64 1))∧((feC 1).all (fun v=>v.oneCell')=true))∧True)∧True)∧(feD.is (feC (db (byC n)%pr))∧feD.is (feC (db (byC n)%pr))))∧((feC (rde_v0 n)).all (fun v=>v.oneCell')=true))∧True)∧True)∧(feD.is (feC 1)∧feD.is (feC (rde_v0 n))))∧True)∧True)∧(feD.is (feC 1)∧feD.is (feC (rde_v0 n))))∧((feC (rde_v1 n)).all (fun v=>v.oneCell')=true))∧((feC (rde_v2 n)).all (fun v=>v.oneCell')=true))∧True)∧True)∧(feD.is (feC (rde_v2 n))∧feD.is (feC (rde_v2 n))))∧((feC (rde_v3 n)).all (fun v=>v.oneCell')=true))∧True)∧True)∧True)∧(feD.is (feC (rde_v1 n))∧feD.is (feC (rde_v1 n))))∧(feD.is (feC dN)∧feD.is (feC (rde_v4 n))))∧True)∧(feD.is (feC (rde_v5 n))∧feD.is (feC (rde_v3 n))))∧feD.is (feC (rde_v6 n)))∧((feC (rde_v7 n)).all (fun v=>v.oneCell')=true))∧True)∧True)∧True)∧(feD.is (feC (rde_v7 n))∧feD.is (feC (rde_v3 n))))∧(feD.is (feC 1)∧feD.is (feC (rde_v8 n))))∧True)∧True)∧(True∧(rootB (nm (feC 1)) (nm (feC (rde_v8 n))))=true))∧((feC (rde_v9 n)).all (fun v=>v.oneCell')=true))∧True)∧True)∧True)∧(feD.is (feC (rde_v9 n))∧feD.is (feC (rde_v2 n))))∧((feC (rde_v10 n)).all (fun v=>v.oneCell')=true))∧True)∧True)∧(feD.is (feC (db (byC n)%pr))∧feD.is (feC (db (byC n)%pr))))∧True)∧(feD.is (feC (rde_v11 n))∧feD.is (feC (rde_v10 n))))∧feD.is (feC (rde_v12 n)))∧((feC (rde_v13 n)).all (fun v=>v.oneCell')=true))∧True)∧True)∧True)∧(feD.is (feC (rde_v9 n))∧feD.is (feC (rde_v10 n))))∧True)∧(feD.is (feC (rde_v14 n))∧feD.is (feC (rde_v7 n))))∧(feD.is (feC (rde_v1 n))∧feD.is (feC (rde_v15 n))))∧((feC (rde_v16 n)).all (fun v=>v.oneCell')=true))∧True)∧True)∧(feD.is (feC (rde_v13 n))∧feD.is (feC (rde_v16 n))))∧((feC (rde_v17 n)).all (fun v=>v.oneCell')=true))∧True)∧True)∧True)∧True)∧(feD.is (feC (rde_v17 n))∧(decide (nm (feC (rde_v17 n))%pr%2=1))=false))∧True)∧True)∧True)∧(IntKind.u64=IntKind.u64∧w64 0))∧((feD.is (feC (rde_v16 n))∧feD.is (feC 0))∧(decide (nm (feC (rde_v16 n))%pr=nm (feC 0)%pr))=false))∧True)∧True)∧True)∧True)∧True)∧True)∧((ptC (⟨(rde_v13 n),(rde_v16 n),1,(rde_v17 n)⟩:P4)).all (fun v=>v.oneCell')=true))∧True)):=by kernel_rfl
theorem rde_4 (n:Int):evF (yty.en tab12) rde_h Tryz.f41 [.agg (byC n)] [some (.bool true),some (.bool false),some (.bool false)]=some (.tuple #[.agg (ptC (⟨0,0,0,0⟩:P4)),.bool false],(((((((((((((((((((((((((((((((((((((((((((((((((((((((((((((((((((((((((((((((((((True∧True)∧True)∧byD.is (byC n))∧True)∧True)∧(True∧(decide (db (byC n)%pr=db (byC n)))=true))∧((feC (db (byC n)%pr)).all (fun v=>v.oneCell')=true))∧True)∧True)∧True)∧True)∧True)∧(feD.is (feC (db (byC n)%pr))∧(decide (nm (feC (db (byC n)%pr))%pr%2=1))=false))∧True)∧(IntKind.u64=IntKind.u64∧w64 1))∧((feC 1).all (fun v=>v.oneCell')=true))∧True)∧True)∧(feD.is (feC (db (byC n)%pr))∧feD.is (feC (db (byC n)%pr))))∧((feC (rde_v0 n)).all (fun v=>v.oneCell')=true))∧True)∧True)∧(feD.is (feC 1)∧feD.is (feC (rde_v0 n))))∧True)∧True)∧(feD.is (feC 1)∧feD.is (feC (rde_v0 n))))∧((feC (rde_v1 n)).all (fun v=>v.oneCell')=true))∧((feC (rde_v2 n)).all (fun v=>v.oneCell')=true))∧True)∧True)∧(feD.is (feC (rde_v2 n))∧feD.is (feC (rde_v2 n))))∧((feC (rde_v3 n)).all (fun v=>v.oneCell')=true))∧True)∧True)∧True)∧(feD.is (feC (rde_v1 n))∧feD.is (feC (rde_v1 n))))∧(feD.is (feC dN)∧feD.is (feC (rde_v4 n))))∧True)∧(feD.is (feC (rde_v5 n))∧feD.is (feC (rde_v3 n))))∧feD.is (feC (rde_v6 n)))∧((feC (rde_v7 n)).all (fun v=>v.oneCell')=true))∧True)∧True)∧True)∧(feD.is (feC (rde_v7 n))∧feD.is (feC (rde_v3 n))))∧(feD.is (feC 1)∧feD.is (feC (rde_v8 n))))∧True)∧True)∧(True∧(rootB (nm (feC 1)) (nm (feC (rde_v8 n))))=false))∧((feC (rde_v9 n)).all (fun v=>v.oneCell')=true))∧True)∧True)∧True)∧(feD.is (feC (rde_v9 n))∧feD.is (feC (rde_v2 n))))∧((feC (rde_v10 n)).all (fun v=>v.oneCell')=true))∧True)∧True)∧(feD.is (feC (db (byC n)%pr))∧feD.is (feC (db (byC n)%pr))))∧True)∧(feD.is (feC (rde_v11 n))∧feD.is (feC (rde_v10 n))))∧feD.is (feC (rde_v12 n)))∧((feC (rde_v13 n)).all (fun v=>v.oneCell')=true))∧True)∧True)∧True)∧(feD.is (feC (rde_v9 n))∧feD.is (feC (rde_v10 n))))∧True)∧(feD.is (feC (rde_v14 n))∧feD.is (feC (rde_v7 n))))∧(feD.is (feC (rde_v1 n))∧feD.is (feC (rde_v15 n))))∧((feC (rde_v16 n)).all (fun v=>v.oneCell')=true))∧True)∧True)∧(feD.is (feC (rde_v13 n))∧feD.is (feC (rde_v16 n))))∧((feC (rde_v17 n)).all (fun v=>v.oneCell')=true))∧True)∧True)∧True)∧True)∧True)∧True)∧True)∧((ptC (⟨0,0,0,0⟩:P4)).all (fun v=>v.oneCell')=true))∧True)):=by kernel_rfl
theorem rde_5 (n:Int):evF (yty.en tab12) rde_h Tryz.f41 [.agg (byC n)] [some (.bool false)]=some (.tuple #[.agg (ptC (⟨0,0,0,0⟩:P4)),.bool false],(((((((((((((((True∧True)∧True)∧byD.is (byC n))∧True)∧True)∧(True∧(decide (db (byC n)%pr=db (byC n)))=false))∧((feC (db (byC n)%pr)).all (fun v=>v.oneCell')=true))∧True)∧True)∧True)∧True)∧True)∧True)∧((ptC (⟨0,0,0,0⟩:P4)).all (fun v=>v.oneCell')=true))∧True)):=by kernel_rfl
def rde_F (n:Int):Value:=cond (decide (db (byC n)%pr=db (byC n))) (cond (decide (nm (feC (db (byC n)%pr))%pr%2=1)) (.tuple #[.agg (ptC (⟨0,0,0,0⟩:P4)),.bool false]) (cond (rootB (nm (feC 1)) (nm (feC (rde_v8 n)))) (cond (decide (nm (feC (rde_v17 n))%pr%2=1)) (.tuple #[.agg (ptC (⟨0,0,0,0⟩:P4)),.bool false]) (cond (decide (nm (feC (rde_v16 n))%pr=nm (feC 0)%pr)) (.tuple #[.agg (ptC (⟨0,0,0,0⟩:P4)),.bool false]) (.tuple #[.agg (ptC (⟨(rde_v13 n),(rde_v16 n),1,(rde_v17 n)⟩:P4)),.bool true]))) (.tuple #[.agg (ptC (⟨0,0,0,0⟩:P4)),.bool false]))) (.tuple #[.agg (ptC (⟨0,0,0,0⟩:P4)),.bool false])
set_option maxHeartbeats 4000000 in
theorem rde_p (n : Int) (hn : Ok n) : Pure Tryz.prog 41 #[.agg (byC n)] (rde_F n) := by
  unfold rde_F
  cases h0:(decide (db (byC n)%pr=db (byC n)))
  · skip
    exact pure_of mixed Tryz.func41 _ (rde_5 n) rfl ⟨⟨⟨⟨⟨⟨⟨⟨⟨⟨⟨⟨⟨⟨⟨trivial,trivial⟩,trivial⟩,(byD.is_enc (hn))⟩,trivial⟩,trivial⟩,⟨trivial,h0⟩⟩,one_fe _⟩,trivial⟩,trivial⟩,trivial⟩,trivial⟩,trivial⟩,trivial⟩,ptC_one _⟩,trivial⟩
  · skip
    cases h1:(decide (nm (feC (db (byC n)%pr))%pr%2=1))
    · skip
      cases h2:(rootB (nm (feC 1)) (nm (feC (rde_v8 n))))
      · skip
        exact pure_of mixed Tryz.func41 _ (rde_4 n) rfl ⟨⟨⟨⟨⟨⟨⟨⟨⟨⟨⟨⟨⟨⟨⟨⟨⟨⟨⟨⟨⟨⟨⟨⟨⟨⟨⟨⟨⟨⟨⟨⟨⟨⟨⟨⟨⟨⟨⟨⟨⟨⟨⟨⟨⟨⟨⟨⟨⟨⟨⟨⟨⟨⟨⟨⟨⟨⟨⟨⟨⟨⟨⟨⟨⟨⟨⟨⟨⟨⟨⟨⟨⟨⟨⟨⟨⟨⟨⟨⟨⟨⟨⟨trivial,trivial⟩,trivial⟩,(byD.is_enc (hn))⟩,trivial⟩,trivial⟩,⟨trivial,h0⟩⟩,one_fe _⟩,trivial⟩,trivial⟩,trivial⟩,trivial⟩,trivial⟩,⟨(feD.is_enc (ok_mod _)),h1⟩⟩,trivial⟩,⟨rfl,⟨by decide,by decide⟩⟩⟩,one_fe _⟩,trivial⟩,trivial⟩,⟨(feD.is_enc (ok_mod _)),(feD.is_enc (ok_mod _))⟩⟩,one_fe _⟩,trivial⟩,trivial⟩,⟨(feD.is_enc (show Ok 1 from⟨by decide,by decide⟩)),(feD.is_enc (ok_mod _))⟩⟩,trivial⟩,trivial⟩,⟨(feD.is_enc (show Ok 1 from⟨by decide,by decide⟩)),(feD.is_enc (ok_mod _))⟩⟩,one_fe _⟩,one_fe _⟩,trivial⟩,trivial⟩,⟨(feD.is_enc (ok_mod _)),(feD.is_enc (ok_mod _))⟩⟩,one_fe _⟩,trivial⟩,trivial⟩,trivial⟩,⟨(feD.is_enc (ok_mod _)),(feD.is_enc (ok_mod _))⟩⟩,⟨(feD.is_enc (ok_dN)),(feD.is_enc (ok_mod _))⟩⟩,trivial⟩,⟨(feD.is_enc (ok_mod _)),(feD.is_enc (ok_mod _))⟩⟩,(feD.is_enc (ok_mod _))⟩,one_fe _⟩,trivial⟩,trivial⟩,trivial⟩,⟨(feD.is_enc (ok_mod _)),(feD.is_enc (ok_mod _))⟩⟩,⟨(feD.is_enc (show Ok 1 from⟨by decide,by decide⟩)),(feD.is_enc (ok_mod _))⟩⟩,trivial⟩,trivial⟩,⟨trivial,h2⟩⟩,one_fe _⟩,trivial⟩,trivial⟩,trivial⟩,⟨(feD.is_enc (ok_rootV _ _)),(feD.is_enc (ok_mod _))⟩⟩,one_fe _⟩,trivial⟩,trivial⟩,⟨(feD.is_enc (ok_mod _)),(feD.is_enc (ok_mod _))⟩⟩,trivial⟩,⟨(feD.is_enc (ok_mod _)),(feD.is_enc (ok_mod _))⟩⟩,(feD.is_enc (ok_mod _))⟩,one_fe _⟩,trivial⟩,trivial⟩,trivial⟩,⟨(feD.is_enc (ok_rootV _ _)),(feD.is_enc (ok_mod _))⟩⟩,trivial⟩,⟨(feD.is_enc (ok_mod _)),(feD.is_enc (ok_mod _))⟩⟩,⟨(feD.is_enc (ok_mod _)),(feD.is_enc (ok_mod _))⟩⟩,one_fe _⟩,trivial⟩,trivial⟩,⟨(feD.is_enc (ok_absF _)),(feD.is_enc (ok_mod _))⟩⟩,one_fe _⟩,trivial⟩,trivial⟩,trivial⟩,trivial⟩,trivial⟩,trivial⟩,trivial⟩,ptC_one _⟩,trivial⟩
      · skip
        cases h3:(decide (nm (feC (rde_v17 n))%pr%2=1))
        · skip
          cases h4:(decide (nm (feC (rde_v16 n))%pr=nm (feC 0)%pr))
          · skip
            exact pure_of mixed Tryz.func41 _ (rde_3 n) rfl ⟨⟨⟨⟨⟨⟨⟨⟨⟨⟨⟨⟨⟨⟨⟨⟨⟨⟨⟨⟨⟨⟨⟨⟨⟨⟨⟨⟨⟨⟨⟨⟨⟨⟨⟨⟨⟨⟨⟨⟨⟨⟨⟨⟨⟨⟨⟨⟨⟨⟨⟨⟨⟨⟨⟨⟨⟨⟨⟨⟨⟨⟨⟨⟨⟨⟨⟨⟨⟨⟨⟨⟨⟨⟨⟨⟨⟨⟨⟨⟨⟨⟨⟨⟨⟨⟨⟨⟨⟨⟨⟨⟨trivial,trivial⟩,trivial⟩,(byD.is_enc (hn))⟩,trivial⟩,trivial⟩,⟨trivial,h0⟩⟩,one_fe _⟩,trivial⟩,trivial⟩,trivial⟩,trivial⟩,trivial⟩,⟨(feD.is_enc (ok_mod _)),h1⟩⟩,trivial⟩,⟨rfl,⟨by decide,by decide⟩⟩⟩,one_fe _⟩,trivial⟩,trivial⟩,⟨(feD.is_enc (ok_mod _)),(feD.is_enc (ok_mod _))⟩⟩,one_fe _⟩,trivial⟩,trivial⟩,⟨(feD.is_enc (show Ok 1 from⟨by decide,by decide⟩)),(feD.is_enc (ok_mod _))⟩⟩,trivial⟩,trivial⟩,⟨(feD.is_enc (show Ok 1 from⟨by decide,by decide⟩)),(feD.is_enc (ok_mod _))⟩⟩,one_fe _⟩,one_fe _⟩,trivial⟩,trivial⟩,⟨(feD.is_enc (ok_mod _)),(feD.is_enc (ok_mod _))⟩⟩,one_fe _⟩,trivial⟩,trivial⟩,trivial⟩,⟨(feD.is_enc (ok_mod _)),(feD.is_enc (ok_mod _))⟩⟩,⟨(feD.is_enc (ok_dN)),(feD.is_enc (ok_mod _))⟩⟩,trivial⟩,⟨(feD.is_enc (ok_mod _)),(feD.is_enc (ok_mod _))⟩⟩,(feD.is_enc (ok_mod _))⟩,one_fe _⟩,trivial⟩,trivial⟩,trivial⟩,⟨(feD.is_enc (ok_mod _)),(feD.is_enc (ok_mod _))⟩⟩,⟨(feD.is_enc (show Ok 1 from⟨by decide,by decide⟩)),(feD.is_enc (ok_mod _))⟩⟩,trivial⟩,trivial⟩,⟨trivial,h2⟩⟩,one_fe _⟩,trivial⟩,trivial⟩,trivial⟩,⟨(feD.is_enc (ok_rootV _ _)),(feD.is_enc (ok_mod _))⟩⟩,one_fe _⟩,trivial⟩,trivial⟩,⟨(feD.is_enc (ok_mod _)),(feD.is_enc (ok_mod _))⟩⟩,trivial⟩,⟨(feD.is_enc (ok_mod _)),(feD.is_enc (ok_mod _))⟩⟩,(feD.is_enc (ok_mod _))⟩,one_fe _⟩,trivial⟩,trivial⟩,trivial⟩,⟨(feD.is_enc (ok_rootV _ _)),(feD.is_enc (ok_mod _))⟩⟩,trivial⟩,⟨(feD.is_enc (ok_mod _)),(feD.is_enc (ok_mod _))⟩⟩,⟨(feD.is_enc (ok_mod _)),(feD.is_enc (ok_mod _))⟩⟩,one_fe _⟩,trivial⟩,trivial⟩,⟨(feD.is_enc (ok_absF _)),(feD.is_enc (ok_mod _))⟩⟩,one_fe _⟩,trivial⟩,trivial⟩,trivial⟩,trivial⟩,⟨(feD.is_enc (ok_mod _)),h3⟩⟩,trivial⟩,trivial⟩,trivial⟩,⟨rfl,⟨by decide,by decide⟩⟩⟩,⟨⟨(feD.is_enc (ok_mod _)),(feD.is_enc (show Ok 0 from⟨by decide,by decide⟩))⟩,h4⟩⟩,trivial⟩,trivial⟩,trivial⟩,trivial⟩,trivial⟩,trivial⟩,ptC_one _⟩,trivial⟩
          · skip
            exact pure_of mixed Tryz.func41 _ (rde_2 n) rfl ⟨⟨⟨⟨⟨⟨⟨⟨⟨⟨⟨⟨⟨⟨⟨⟨⟨⟨⟨⟨⟨⟨⟨⟨⟨⟨⟨⟨⟨⟨⟨⟨⟨⟨⟨⟨⟨⟨⟨⟨⟨⟨⟨⟨⟨⟨⟨⟨⟨⟨⟨⟨⟨⟨⟨⟨⟨⟨⟨⟨⟨⟨⟨⟨⟨⟨⟨⟨⟨⟨⟨⟨⟨⟨⟨⟨⟨⟨⟨⟨⟨⟨⟨⟨⟨⟨⟨⟨trivial,trivial⟩,trivial⟩,(byD.is_enc (hn))⟩,trivial⟩,trivial⟩,⟨trivial,h0⟩⟩,one_fe _⟩,trivial⟩,trivial⟩,trivial⟩,trivial⟩,trivial⟩,⟨(feD.is_enc (ok_mod _)),h1⟩⟩,trivial⟩,⟨rfl,⟨by decide,by decide⟩⟩⟩,one_fe _⟩,trivial⟩,trivial⟩,⟨(feD.is_enc (ok_mod _)),(feD.is_enc (ok_mod _))⟩⟩,one_fe _⟩,trivial⟩,trivial⟩,⟨(feD.is_enc (show Ok 1 from⟨by decide,by decide⟩)),(feD.is_enc (ok_mod _))⟩⟩,trivial⟩,trivial⟩,⟨(feD.is_enc (show Ok 1 from⟨by decide,by decide⟩)),(feD.is_enc (ok_mod _))⟩⟩,one_fe _⟩,one_fe _⟩,trivial⟩,trivial⟩,⟨(feD.is_enc (ok_mod _)),(feD.is_enc (ok_mod _))⟩⟩,one_fe _⟩,trivial⟩,trivial⟩,trivial⟩,⟨(feD.is_enc (ok_mod _)),(feD.is_enc (ok_mod _))⟩⟩,⟨(feD.is_enc (ok_dN)),(feD.is_enc (ok_mod _))⟩⟩,trivial⟩,⟨(feD.is_enc (ok_mod _)),(feD.is_enc (ok_mod _))⟩⟩,(feD.is_enc (ok_mod _))⟩,one_fe _⟩,trivial⟩,trivial⟩,trivial⟩,⟨(feD.is_enc (ok_mod _)),(feD.is_enc (ok_mod _))⟩⟩,⟨(feD.is_enc (show Ok 1 from⟨by decide,by decide⟩)),(feD.is_enc (ok_mod _))⟩⟩,trivial⟩,trivial⟩,⟨trivial,h2⟩⟩,one_fe _⟩,trivial⟩,trivial⟩,trivial⟩,⟨(feD.is_enc (ok_rootV _ _)),(feD.is_enc (ok_mod _))⟩⟩,one_fe _⟩,trivial⟩,trivial⟩,⟨(feD.is_enc (ok_mod _)),(feD.is_enc (ok_mod _))⟩⟩,trivial⟩,⟨(feD.is_enc (ok_mod _)),(feD.is_enc (ok_mod _))⟩⟩,(feD.is_enc (ok_mod _))⟩,one_fe _⟩,trivial⟩,trivial⟩,trivial⟩,⟨(feD.is_enc (ok_rootV _ _)),(feD.is_enc (ok_mod _))⟩⟩,trivial⟩,⟨(feD.is_enc (ok_mod _)),(feD.is_enc (ok_mod _))⟩⟩,⟨(feD.is_enc (ok_mod _)),(feD.is_enc (ok_mod _))⟩⟩,one_fe _⟩,trivial⟩,trivial⟩,⟨(feD.is_enc (ok_absF _)),(feD.is_enc (ok_mod _))⟩⟩,one_fe _⟩,trivial⟩,trivial⟩,trivial⟩,trivial⟩,⟨(feD.is_enc (ok_mod _)),h3⟩⟩,trivial⟩,trivial⟩,trivial⟩,⟨rfl,⟨by decide,by decide⟩⟩⟩,⟨⟨(feD.is_enc (ok_mod _)),(feD.is_enc (show Ok 0 from⟨by decide,by decide⟩))⟩,h4⟩⟩,trivial⟩,trivial⟩,ptC_one _⟩,trivial⟩
        · skip
          exact pure_of mixed Tryz.func41 _ (rde_1 n) rfl ⟨⟨⟨⟨⟨⟨⟨⟨⟨⟨⟨⟨⟨⟨⟨⟨⟨⟨⟨⟨⟨⟨⟨⟨⟨⟨⟨⟨⟨⟨⟨⟨⟨⟨⟨⟨⟨⟨⟨⟨⟨⟨⟨⟨⟨⟨⟨⟨⟨⟨⟨⟨⟨⟨⟨⟨⟨⟨⟨⟨⟨⟨⟨⟨⟨⟨⟨⟨⟨⟨⟨⟨⟨⟨⟨⟨⟨⟨⟨⟨⟨⟨⟨⟨⟨trivial,trivial⟩,trivial⟩,(byD.is_enc (hn))⟩,trivial⟩,trivial⟩,⟨trivial,h0⟩⟩,one_fe _⟩,trivial⟩,trivial⟩,trivial⟩,trivial⟩,trivial⟩,⟨(feD.is_enc (ok_mod _)),h1⟩⟩,trivial⟩,⟨rfl,⟨by decide,by decide⟩⟩⟩,one_fe _⟩,trivial⟩,trivial⟩,⟨(feD.is_enc (ok_mod _)),(feD.is_enc (ok_mod _))⟩⟩,one_fe _⟩,trivial⟩,trivial⟩,⟨(feD.is_enc (show Ok 1 from⟨by decide,by decide⟩)),(feD.is_enc (ok_mod _))⟩⟩,trivial⟩,trivial⟩,⟨(feD.is_enc (show Ok 1 from⟨by decide,by decide⟩)),(feD.is_enc (ok_mod _))⟩⟩,one_fe _⟩,one_fe _⟩,trivial⟩,trivial⟩,⟨(feD.is_enc (ok_mod _)),(feD.is_enc (ok_mod _))⟩⟩,one_fe _⟩,trivial⟩,trivial⟩,trivial⟩,⟨(feD.is_enc (ok_mod _)),(feD.is_enc (ok_mod _))⟩⟩,⟨(feD.is_enc (ok_dN)),(feD.is_enc (ok_mod _))⟩⟩,trivial⟩,⟨(feD.is_enc (ok_mod _)),(feD.is_enc (ok_mod _))⟩⟩,(feD.is_enc (ok_mod _))⟩,one_fe _⟩,trivial⟩,trivial⟩,trivial⟩,⟨(feD.is_enc (ok_mod _)),(feD.is_enc (ok_mod _))⟩⟩,⟨(feD.is_enc (show Ok 1 from⟨by decide,by decide⟩)),(feD.is_enc (ok_mod _))⟩⟩,trivial⟩,trivial⟩,⟨trivial,h2⟩⟩,one_fe _⟩,trivial⟩,trivial⟩,trivial⟩,⟨(feD.is_enc (ok_rootV _ _)),(feD.is_enc (ok_mod _))⟩⟩,one_fe _⟩,trivial⟩,trivial⟩,⟨(feD.is_enc (ok_mod _)),(feD.is_enc (ok_mod _))⟩⟩,trivial⟩,⟨(feD.is_enc (ok_mod _)),(feD.is_enc (ok_mod _))⟩⟩,(feD.is_enc (ok_mod _))⟩,one_fe _⟩,trivial⟩,trivial⟩,trivial⟩,⟨(feD.is_enc (ok_rootV _ _)),(feD.is_enc (ok_mod _))⟩⟩,trivial⟩,⟨(feD.is_enc (ok_mod _)),(feD.is_enc (ok_mod _))⟩⟩,⟨(feD.is_enc (ok_mod _)),(feD.is_enc (ok_mod _))⟩⟩,one_fe _⟩,trivial⟩,trivial⟩,⟨(feD.is_enc (ok_absF _)),(feD.is_enc (ok_mod _))⟩⟩,one_fe _⟩,trivial⟩,trivial⟩,trivial⟩,trivial⟩,⟨(feD.is_enc (ok_mod _)),h3⟩⟩,trivial⟩,trivial⟩,trivial⟩,trivial⟩,ptC_one _⟩,trivial⟩
    · skip
      exact pure_of mixed Tryz.func41 _ (rde_0 n) rfl ⟨⟨⟨⟨⟨⟨⟨⟨⟨⟨⟨⟨⟨⟨⟨⟨⟨trivial,trivial⟩,trivial⟩,(byD.is_enc (hn))⟩,trivial⟩,trivial⟩,⟨trivial,h0⟩⟩,one_fe _⟩,trivial⟩,trivial⟩,trivial⟩,trivial⟩,trivial⟩,⟨(feD.is_enc (ok_mod _)),h1⟩⟩,trivial⟩,trivial⟩,ptC_one _⟩,trivial⟩
def rde_S (n:Int):Value:=cond (decide (n%pr=n)) (cond (decide ((n%pr)%pr%2=1)) (.tuple #[.agg (ptC (⟨0,0,0,0⟩:P4)),.bool false]) (cond (rootB (1) ((rde_u8 n))) (cond (decide ((rde_u17 n)%pr%2=1)) (.tuple #[.agg (ptC (⟨0,0,0,0⟩:P4)),.bool false]) (cond (decide ((rde_u16 n)%pr=0%pr)) (.tuple #[.agg (ptC (⟨0,0,0,0⟩:P4)),.bool false]) (.tuple #[.agg (ptC (⟨(rde_u13 n),(rde_u16 n),1,(rde_u17 n)⟩:P4)),.bool true]))) (.tuple #[.agg (ptC (⟨0,0,0,0⟩:P4)),.bool false]))) (.tuple #[.agg (ptC (⟨0,0,0,0⟩:P4)),.bool false])
theorem rde_e (n:Int) (hn:Ok n):rde_F n=rde_S n:=by
  unfold rde_F rde_S
  try simp only[nm_mod,nn_mod,nm_inv,nn_inv,nm_d,nn_d,nm_1,nn_1,nm_root,nn_quo,db_byC _ hn,nm_i,nm_n,nm_abs,nm_z,rde_x0 n hn,rde_x1 n hn,rde_x2 n hn,rde_x3 n hn,rde_x4 n hn,rde_x5 n hn,rde_x6 n hn,rde_x7 n hn,rde_x8 n hn,rde_x9 n hn,rde_x10 n hn,rde_x11 n hn,rde_x12 n hn,rde_x13 n hn,rde_x14 n hn,rde_x15 n hn,rde_x16 n hn,rde_x17 n hn]
  try simp only[rde_w0 n hn,rde_w1 n hn,rde_w2 n hn,rde_w3 n hn,rde_w4 n hn,rde_w5 n hn,rde_w6 n hn,rde_w7 n hn,rde_w8 n hn,rde_w9 n hn,rde_w10 n hn,rde_w11 n hn,rde_w12 n hn,rde_w13 n hn,rde_w14 n hn,rde_w15 n hn,rde_w16 n hn,rde_w17 n hn]
def rmi_h (i:Nat):Hn:=⟨0,[],[],[],[]⟩
theorem rmi_0:evF (yty.en tab12) rmi_h Tryz.f98 [] []=some (.agg (nuC (-(nn (nuC ((nn (nuC 1)+nn (nuC dN))%pr)))%pr)),(((((True∧(IntKind.u64=IntKind.u64∧w64 1))∧True)∧(nuD.is (nuC 1)∧nuD.is (nuC dN)))∧nuD.is (nuC ((nn (nuC 1)+nn (nuC dN))%pr)))∧((nuC (-(nn (nuC ((nn (nuC 1)+nn (nuC dN))%pr)))%pr)).all (fun v=>v.oneCell')=true))):=by kernel_rfl
def rmi_F:Value:= .agg (nuC (-(nn (nuC ((nn (nuC 1)+nn (nuC dN))%pr)))%pr))
set_option maxHeartbeats 4000000 in
theorem rmi_p:Pure Tryz.prog 98 #[] (rmi_F):=by
  unfold rmi_F
  exact pure_of mixed Tryz.func98 _ (rmi_0) rfl ⟨⟨⟨⟨⟨trivial,⟨rfl,⟨by decide,by decide⟩⟩⟩,trivial⟩,⟨(nuD.is_enc ⟨by decide,by decide⟩),(nuD.is_enc (bd_d))⟩⟩,(nuD.is_enc (mod_bd _))⟩,one_nu _⟩
def rmi_R:Int:= -(((1+dN)%pr))%pr
def rmi_S:Value:= .agg (nuC (rmi_R))
theorem rmi_e:rmi_F=rmi_S:=by
  unfold rmi_F rmi_S rmi_R
  try simp only[nm_mod,nn_mod,nm_inv,nn_inv,nm_d,nn_d,nm_1,nn_1,nm_root,nn_quo,nn_1,nn_d]
theorem absF_val (x:Int):absF x=((ab (fp x)).val:Int):=by
  have h:absF x%pr=absF x:=by
    unfold absF;split<;>exact emm _
  rw[← h,mod_fp,fp_absF]
theorem pt4 (x y z:Int):ptC (⟨absF x,y%pr,1,z%pr⟩:P4)=ptC (⟨((ab (fp x)).val:Int),((fp y).val:Int),1,((fp z).val:Int)⟩:P4):=by rw[absF_val,mod_fp,mod_fp z]
theorem same_fp (x y:Int):decide (x%pr=y%pr)=decide (fp x=fp y):=decide_eq_decide.2 fp_eq.symm
def decB (n:Int):Bool:=decide (n%pr=n) && (!ob (fp n) && (dB (fp n) && (!ob (dX (fp n)*dY (fp n)) && !decide (dY (fp n)=0))))
def decI (n:Int):P4:=cond (decB n) ⟨((dX (fp n)).val:Int),((dY (fp n)).val:Int),1,((dX (fp n)*dY (fp n)).val:Int)⟩ ⟨0,0,0,0⟩
theorem dec_cases (b0 b1 b2 b3 b4:Bool) (A Z:P4):cond b0 (cond b1 (Value.tuple #[.agg (ptC Z),.bool false]) (cond b2 (cond b3 (.tuple #[.agg (ptC Z),.bool false]) (cond b4 (.tuple #[.agg (ptC Z),.bool false]) (.tuple #[.agg (ptC A),.bool true]))) (.tuple #[.agg (ptC Z),.bool false]))) (.tuple #[.agg (ptC Z),.bool false])= .tuple #[.agg (ptC (cond (b0 && (!b1 && (b2 && (!b3 && !b4)))) A Z)),.bool (b0 && (!b1 && (b2 && (!b3 && !b4))))]:=by
  cases b0<;>cases b1<;>cases b2<;>cases b3<;>cases b4<;>rfl
theorem rde_eq (n:Int):rde_S n= .tuple #[.agg (ptC (decI n)),.bool (decB n)]:=by
  unfold rde_S
  delta rde_u0 rde_u1 rde_u2 rde_u3 rde_u4 rde_u5 rde_u6 rde_u7 rde_u8 rde_u9 rde_u10 rde_u11 rde_u12 rde_u13 rde_u14 rde_u15 rde_u16 rde_u17
  simp only[ob_fp,same_fp,pt4,fp_mod,fp_absF,fp_mul,fp_add,fp_sub,fp_neg,fp_rootV,rootB_E,fp_one,fp_zero,fp_dd]
  rw[dec_cases]
  unfold decI decB dX dY dB dR dV dW dU
  rfl
theorem Decode_c (n:Int) (hn:Ok n):Pure Tryz.prog 41 #[.agg (byC n)] (.tuple #[.agg (ptC (decI n)),.bool (decB n)]):=by
  have h:=rde_p n hn
  rwa[rde_e n hn,rde_eq] at h
theorem ok4_dec (n:Int):Ok4 (decI n):=by
  unfold decI
  cases decB n with
  |true=>exact⟨ok_pr (fval_bd _),ok_pr (fval_bd _),ok_1,ok_pr (fval_bd _)⟩
  |false=>exact⟨ok_0,ok_0,ok_0,ok_0⟩
def pDec:Entry Tryz.prog:=ent1 Tryz.func41 (by kernel_rfl) (by kernel_rfl) byD (fun n:Int=> .tuple #[.agg (ptC (decI n)),.bool (decB n)]) Decode_c
theorem decB_iff {n:Int}:decB n=true↔n%pr=n∧¬ od (fp n)∧decOk (fp n):=by
  unfold decB decOk
  simp only[Bool.and_eq_true,decide_eq_true_eq,Bool.not_eq_true',decide_eq_false_iff_not]
  rw[ob_no,ob_no]
theorem dec_rep {n:Int} (h:decB n=true):∃ hb:dB (fp n)=true,RepP (decI n) (decP (fp n) hb):=by
  obtain⟨_,_,hb,_,_⟩:=decB_iff.1 h
  refine⟨hb,ok4_dec n,?_⟩
  unfold decI
  rw[h,cT]
  show Rep (fp ((dX (fp n)).val:Int)) (fp ((dY (fp n)).val:Int)) (fp 1) (fp ((dX (fp n)*dY (fp n)).val:Int)) _
  rw[fp_surj,fp_surj,fp_surj,fp_one]
  exact rep_one (decP (fp n) hb)
end Go.Proofs.YtdebkddhpogkgaaGreat

set_option linter.unusedSimpArgs false
set_option linter.unusedVariables false
namespace Go.Proofs.YtdebkddhpogkgaaGreat
open Go.RowKit Go.Ev
theorem quoV1 (x:Int):fp (quoV 1 (x%pr))=rtE 1 (fp x):=by rw[fp_quoV 1 (x%pr) bd_1 (mod_bd x),fp_one,fp_mod]
theorem absR_val (x:Int):absR (x%pr)=((ab (fp x)).val:Int):=by rw[absR_F (mod_bd x),absF_val,fp_mod]
def minI:Int:= -((1+dN)%pr)%pr
theorem RMin4_c:Pure Tryz.prog 98 #[] (.agg (nuC minI)):=by
  have h:=rmi_p
  rwa[rmi_e] at h
def qMin:Entry Tryz.prog:=ent0 Tryz.func98 (by kernel_rfl) (by kernel_rfl) (.agg (nuC minI)) RMin4_c
theorem fp_min:fp minI= -1 - dE:=by
  unfold minI
  rw[fp_mod,fp_neg,fp_mod,fp_add,fp_one,fp_dd]
  generalize dE=d
  grind -lia
theorem bd_min:0≤minI∧minI<pr:=mod_bd _
theorem nn_min:nn (nuC minI)=minI:=nn_nuC _ bd_min
def tab13:List (Entry Tryz.prog):=pEnc :: pDec :: qMin :: tab12
def rNn_h (i:Nat):Hn:=⟨0,[],[],[],[]⟩
theorem rNn_0:evF (yty.en tab13) rNn_h Tryz.f78 [] []=some (.agg (nuC (quoV (nn (nuC 1)) (nn (nuC minI)))),((((((((((True∧(IntKind.u64=IntKind.u64∧w64 1))∧True)∧(nuD.is (nuC 1)∧nuD.is (nuC minI)))∧True)∧True)∧True)∧((nuC (quoV (nn (nuC 1)) (nn (nuC minI)))).all (fun v=>v.oneCell')=true))∧True)∧True)∧((nuC (quoV (nn (nuC 1)) (nn (nuC minI)))).all (fun v=>v.oneCell')=true))):=by kernel_rfl
def rNn_F:Value:= .agg (nuC (quoV (nn (nuC 1)) (nn (nuC minI))))
set_option maxHeartbeats 4000000 in
theorem rNn_p:Pure Tryz.prog 78 #[] (rNn_F):=by
  unfold rNn_F
  exact pure_of mixed Tryz.func78 _ (rNn_0) rfl ⟨⟨⟨⟨⟨⟨⟨⟨⟨⟨trivial,⟨rfl,⟨by decide,by decide⟩⟩⟩,trivial⟩,⟨(nuD.is_enc ⟨by decide,by decide⟩),(nuD.is_enc (mod_bd _))⟩⟩,trivial⟩,trivial⟩,trivial⟩,one_nu _⟩,trivial⟩,trivial⟩,one_nu _⟩
def rNn_R:Int:=quoV (1) (minI)
def rNn_S:Value:= .agg (nuC (rNn_R))
theorem rNn_e:rNn_F=rNn_S:=by
  unfold rNn_F rNn_S rNn_R
  try simp only[nm_mod,nn_mod,nm_inv,nn_inv,nm_d,nn_d,nm_1,nn_1,nm_root,nn_quo,nn_1,nn_min]
theorem m1d_ne: -1 - dE≠0:=fun e=>one_ne (by rw[← n_sq,e];exact mul_z _)
theorem quo_N:quoV 1 minI=nNum:=by
  have h : fp (quoV 1 minI) = nE := by
    rw[fp_quoV 1 minI bd_1 bd_min,fp_one,fp_min]
    refine(is_uniq (rt_is 1 (-1 - dE)) (b':=true) (r':=nE) ⟨?_,.inr (.inr (.inl ⟨one_ne,m1d_ne,rfl,?_⟩))⟩).1
    · rw[← ob_no,← fp_n,← ob_fp];decide
    · rw [show (-1 - dE) * (nE * nE) = nE * nE * (-1 - dE) by grind -lia]
      exact n_sq
  rw[← fp_n,fp_eq,Int.emod_eq_of_lt (bd_quoV 1 minI).1 (bd_quoV 1 minI).2,Int.emod_eq_of_lt bd_nNum.1 bd_nNum.2] at h
  exact h
theorem RN_c:Pure Tryz.prog 78 #[] (.agg (nuC nNum)):=by
  have h:=rNn_p
  rw[rNn_e] at h
  unfold rNn_S rNn_R at h
  rwa[quo_N] at h
def qNn:Entry Tryz.prog:=ent0 Tryz.func78 (by kernel_rfl) (by kernel_rfl) (.agg (nuC nNum)) RN_c
def tab14:List (Entry Tryz.prog):=qNn :: tab13
theorem nn_rafX (p:P3):nn (nuC (rafX p))=rafX p:=nn_nuC _ (mod_bd _)
theorem nn_rafY (p:P3):nn (nuC (rafY p))=rafY p:=nn_nuC _ (mod_bd _)
def rec_v0 (p:P3):Int:=nn (nuC (rafX (dr (rpC p))))*nn (nuC (rafY (dr (rpC p))))%pr
def rec_u0 (p:P3):Int:=(rafX (p))*(rafY (p))%pr
theorem rec_w0 (p:P3) (hp:Nu3 p):rec_v0 p=rec_u0 p:=by
  unfold rec_v0 rec_u0
  simp only[nm_mod,nn_mod,nm_inv,nn_inv,nm_d,nn_d,nm_1,nn_1,nm_root,nn_quo,dr_rpC _ hp,nn_rafX,nn_rafY,nn_i,nn_n,nn_1,nn_absm]
theorem rec_x0 (p:P3) (hp:Nu3 p):nn (nuC (rec_v0 p))=rec_u0 p:=by
  exact(nn_nuC _ (mod_bd _)).trans (rec_w0 p hp)
def rec_v1 (p:P3):Int:=nn (nuC (rafY (dr (rpC p))))*nn (nuC (rafY (dr (rpC p))))%pr
def rec_u1 (p:P3):Int:=(rafY (p))*(rafY (p))%pr
theorem rec_w1 (p:P3) (hp:Nu3 p):rec_v1 p=rec_u1 p:=by
  unfold rec_v1 rec_u1
  simp only[nm_mod,nn_mod,nm_inv,nn_inv,nm_d,nn_d,nm_1,nn_1,nm_root,nn_quo,dr_rpC _ hp,nn_rafX,nn_rafY,nn_i,nn_n,nn_1,nn_absm]
theorem rec_x1 (p:P3) (hp:Nu3 p):nn (nuC (rec_v1 p))=rec_u1 p:=by
  exact(nn_nuC _ (mod_bd _)).trans (rec_w1 p hp)
def rec_v2 (p:P3):Int:=(nn (nuC 1) - nn (nuC (rec_v1 p)))%pr
def rec_u2 (p:P3):Int:=(1 - (rec_u1 p))%pr
theorem rec_w2 (p:P3) (hp:Nu3 p):rec_v2 p=rec_u2 p:=by
  unfold rec_v2 rec_u2
  simp only[nm_mod,nn_mod,nm_inv,nn_inv,nm_d,nn_d,nm_1,nn_1,nm_root,nn_quo,dr_rpC _ hp,nn_rafX,nn_rafY,nn_i,nn_n,nn_1,nn_absm,rec_x1 p hp]
theorem rec_x2 (p:P3) (hp:Nu3 p):nn (nuC (rec_v2 p))=rec_u2 p:=by
  exact(nn_nuC _ (mod_bd _)).trans (rec_w2 p hp)
def rec_v3 (p:P3):Int:=nn (nuC (rec_v0 p))*nn (nuC (rec_v0 p))%pr
def rec_u3 (p:P3):Int:=(rec_u0 p)*(rec_u0 p)%pr
theorem rec_w3 (p:P3) (hp:Nu3 p):rec_v3 p=rec_u3 p:=by
  unfold rec_v3 rec_u3
  simp only[nm_mod,nn_mod,nm_inv,nn_inv,nm_d,nn_d,nm_1,nn_1,nm_root,nn_quo,dr_rpC _ hp,nn_rafX,nn_rafY,nn_i,nn_n,nn_1,nn_absm,rec_x0 p hp]
theorem rec_x3 (p:P3) (hp:Nu3 p):nn (nuC (rec_v3 p))=rec_u3 p:=by
  exact(nn_nuC _ (mod_bd _)).trans (rec_w3 p hp)
def rec_v4 (p:P3):Int:=nn (nuC (rec_v2 p))*nn (nuC (rec_v3 p))%pr
def rec_u4 (p:P3):Int:=(rec_u2 p)*(rec_u3 p)%pr
theorem rec_w4 (p:P3) (hp:Nu3 p):rec_v4 p=rec_u4 p:=by
  unfold rec_v4 rec_u4
  simp only[nm_mod,nn_mod,nm_inv,nn_inv,nm_d,nn_d,nm_1,nn_1,nm_root,nn_quo,dr_rpC _ hp,nn_rafX,nn_rafY,nn_i,nn_n,nn_1,nn_absm,rec_x2 p hp,rec_x3 p hp]
theorem rec_x4 (p:P3) (hp:Nu3 p):nn (nuC (rec_v4 p))=rec_u4 p:=by
  exact(nn_nuC _ (mod_bd _)).trans (rec_w4 p hp)
def rec_v5 (p:P3):Int:=quoV (nn (nuC 1)) (nn (nuC (rec_v4 p)))
def rec_u5 (p:P3):Int:=quoV (1) ((rec_u4 p))
theorem rec_w5 (p:P3) (hp:Nu3 p):rec_v5 p=rec_u5 p:=by
  unfold rec_v5 rec_u5
  simp only[nm_mod,nn_mod,nm_inv,nn_inv,nm_d,nn_d,nm_1,nn_1,nm_root,nn_quo,dr_rpC _ hp,nn_rafX,nn_rafY,nn_i,nn_n,nn_1,nn_absm,rec_x4 p hp]
theorem rec_x5 (p:P3) (hp:Nu3 p):nn (nuC (rec_v5 p))=rec_u5 p:=by
  exact(nn_nuC _ (bd_quoV _ _)).trans (rec_w5 p hp)
def rec_v6 (p:P3):Int:=nn (nuC (rec_v5 p))*nn (nuC (rec_v2 p))%pr
def rec_u6 (p:P3):Int:=(rec_u5 p)*(rec_u2 p)%pr
theorem rec_w6 (p:P3) (hp:Nu3 p):rec_v6 p=rec_u6 p:=by
  unfold rec_v6 rec_u6
  simp only[nm_mod,nn_mod,nm_inv,nn_inv,nm_d,nn_d,nm_1,nn_1,nm_root,nn_quo,dr_rpC _ hp,nn_rafX,nn_rafY,nn_i,nn_n,nn_1,nn_absm,rec_x2 p hp,rec_x5 p hp]
theorem rec_x6 (p:P3) (hp:Nu3 p):nn (nuC (rec_v6 p))=rec_u6 p:=by
  exact(nn_nuC _ (mod_bd _)).trans (rec_w6 p hp)
def rec_v7 (p:P3):Int:=nn (nuC (rec_v5 p))*nn (nuC (rec_v0 p))%pr
def rec_u7 (p:P3):Int:=(rec_u5 p)*(rec_u0 p)%pr
theorem rec_w7 (p:P3) (hp:Nu3 p):rec_v7 p=rec_u7 p:=by
  unfold rec_v7 rec_u7
  simp only[nm_mod,nn_mod,nm_inv,nn_inv,nm_d,nn_d,nm_1,nn_1,nm_root,nn_quo,dr_rpC _ hp,nn_rafX,nn_rafY,nn_i,nn_n,nn_1,nn_absm,rec_x0 p hp,rec_x5 p hp]
theorem rec_x7 (p:P3) (hp:Nu3 p):nn (nuC (rec_v7 p))=rec_u7 p:=by
  exact(nn_nuC _ (mod_bd _)).trans (rec_w7 p hp)
def rec_v8 (p:P3):Int:=nn (nuC (rec_v6 p))*nn (nuC (rec_v7 p))%pr
def rec_u8 (p:P3):Int:=(rec_u6 p)*(rec_u7 p)%pr
theorem rec_w8 (p:P3) (hp:Nu3 p):rec_v8 p=rec_u8 p:=by
  unfold rec_v8 rec_u8
  simp only[nm_mod,nn_mod,nm_inv,nn_inv,nm_d,nn_d,nm_1,nn_1,nm_root,nn_quo,dr_rpC _ hp,nn_rafX,nn_rafY,nn_i,nn_n,nn_1,nn_absm,rec_x6 p hp,rec_x7 p hp]
theorem rec_x8 (p:P3) (hp:Nu3 p):nn (nuC (rec_v8 p))=rec_u8 p:=by
  exact(nn_nuC _ (mod_bd _)).trans (rec_w8 p hp)
def rec_v9 (p:P3):Int:=nn (nuC (rec_v8 p))*nn (nuC (rec_v0 p))%pr
def rec_u9 (p:P3):Int:=(rec_u8 p)*(rec_u0 p)%pr
theorem rec_w9 (p:P3) (hp:Nu3 p):rec_v9 p=rec_u9 p:=by
  unfold rec_v9 rec_u9
  simp only[nm_mod,nn_mod,nm_inv,nn_inv,nm_d,nn_d,nm_1,nn_1,nm_root,nn_quo,dr_rpC _ hp,nn_rafX,nn_rafY,nn_i,nn_n,nn_1,nn_absm,rec_x0 p hp,rec_x8 p hp]
theorem rec_x9 (p:P3) (hp:Nu3 p):nn (nuC (rec_v9 p))=rec_u9 p:=by
  exact(nn_nuC _ (mod_bd _)).trans (rec_w9 p hp)
def rec_v10 (p:P3):Int:=nn (nuC (rec_v0 p))*nn (nuC (rec_v9 p))%pr
def rec_u10 (p:P3):Int:=(rec_u0 p)*(rec_u9 p)%pr
theorem rec_w10 (p:P3) (hp:Nu3 p):rec_v10 p=rec_u10 p:=by
  unfold rec_v10 rec_u10
  simp only[nm_mod,nn_mod,nm_inv,nn_inv,nm_d,nn_d,nm_1,nn_1,nm_root,nn_quo,dr_rpC _ hp,nn_rafX,nn_rafY,nn_i,nn_n,nn_1,nn_absm,rec_x0 p hp,rec_x9 p hp]
theorem rec_x10 (p:P3) (hp:Nu3 p):nn (nuC (rec_v10 p))=rec_u10 p:=by
  exact(nn_nuC _ (mod_bd _)).trans (rec_w10 p hp)
def rec_v11 (p:P3):Int:=nn (nuC iNum)*nn (nuC (rafY (dr (rpC p))))%pr
def rec_u11 (p:P3):Int:=iNum*(rafY (p))%pr
theorem rec_w11 (p:P3) (hp:Nu3 p):rec_v11 p=rec_u11 p:=by
  unfold rec_v11 rec_u11
  simp only[nm_mod,nn_mod,nm_inv,nn_inv,nm_d,nn_d,nm_1,nn_1,nm_root,nn_quo,dr_rpC _ hp,nn_rafX,nn_rafY,nn_i,nn_n,nn_1,nn_absm]
theorem rec_x11 (p:P3) (hp:Nu3 p):nn (nuC (rec_v11 p))=rec_u11 p:=by
  exact(nn_nuC _ (mod_bd _)).trans (rec_w11 p hp)
def rec_v12 (p:P3):Int:=nn (nuC iNum)*nn (nuC (rafX (dr (rpC p))))%pr
def rec_u12 (p:P3):Int:=iNum*(rafX (p))%pr
theorem rec_w12 (p:P3) (hp:Nu3 p):rec_v12 p=rec_u12 p:=by
  unfold rec_v12 rec_u12
  simp only[nm_mod,nn_mod,nm_inv,nn_inv,nm_d,nn_d,nm_1,nn_1,nm_root,nn_quo,dr_rpC _ hp,nn_rafX,nn_rafY,nn_i,nn_n,nn_1,nn_absm]
theorem rec_x12 (p:P3) (hp:Nu3 p):nn (nuC (rec_v12 p))=rec_u12 p:=by
  exact(nn_nuC _ (mod_bd _)).trans (rec_w12 p hp)
def rec_v13 (p:P3):Int:=nn (nuC (rec_v6 p))*nn (nuC nNum)%pr
def rec_u13 (p:P3):Int:=(rec_u6 p)*nNum%pr
theorem rec_w13 (p:P3) (hp:Nu3 p):rec_v13 p=rec_u13 p:=by
  unfold rec_v13 rec_u13
  simp only[nm_mod,nn_mod,nm_inv,nn_inv,nm_d,nn_d,nm_1,nn_1,nm_root,nn_quo,dr_rpC _ hp,nn_rafX,nn_rafY,nn_i,nn_n,nn_1,nn_absm,rec_x6 p hp]
theorem rec_x13 (p:P3) (hp:Nu3 p):nn (nuC (rec_v13 p))=rec_u13 p:=by
  exact(nn_nuC _ (mod_bd _)).trans (rec_w13 p hp)
def rec_v14 (p:P3):Int:=nn (nuC (rec_v11 p))*nn (nuC (rec_v9 p))%pr
def rec_u14 (p:P3):Int:=(rec_u11 p)*(rec_u9 p)%pr
theorem rec_w14 (p:P3) (hp:Nu3 p):rec_v14 p=rec_u14 p:=by
  unfold rec_v14 rec_u14
  simp only[nm_mod,nn_mod,nm_inv,nn_inv,nm_d,nn_d,nm_1,nn_1,nm_root,nn_quo,dr_rpC _ hp,nn_rafX,nn_rafY,nn_i,nn_n,nn_1,nn_absm,rec_x9 p hp,rec_x11 p hp]
theorem rec_x14 (p:P3) (hp:Nu3 p):nn (nuC (rec_v14 p))=rec_u14 p:=by
  exact(nn_nuC _ (mod_bd _)).trans (rec_w14 p hp)
def rec_v15 (p:P3):Int:= -(nn (nuC (rec_v12 p)))%pr
def rec_u15 (p:P3):Int:= -((rec_u12 p))%pr
theorem rec_w15 (p:P3) (hp:Nu3 p):rec_v15 p=rec_u15 p:=by
  unfold rec_v15 rec_u15
  simp only[nm_mod,nn_mod,nm_inv,nn_inv,nm_d,nn_d,nm_1,nn_1,nm_root,nn_quo,dr_rpC _ hp,nn_rafX,nn_rafY,nn_i,nn_n,nn_1,nn_absm,rec_x12 p hp]
theorem rec_x15 (p:P3) (hp:Nu3 p):nn (nuC (rec_v15 p))=rec_u15 p:=by
  exact(nn_nuC _ (mod_bd _)).trans (rec_w15 p hp)
def rec_v16 (p:P3):Int:=(nn (nuC 1) - nn (nuC (rec_v15 p)))%pr
def rec_u16 (p:P3):Int:=(1 - (rec_u15 p))%pr
theorem rec_w16 (p:P3) (hp:Nu3 p):rec_v16 p=rec_u16 p:=by
  unfold rec_v16 rec_u16
  simp only[nm_mod,nn_mod,nm_inv,nn_inv,nm_d,nn_d,nm_1,nn_1,nm_root,nn_quo,dr_rpC _ hp,nn_rafX,nn_rafY,nn_i,nn_n,nn_1,nn_absm,rec_x15 p hp]
theorem rec_x16 (p:P3) (hp:Nu3 p):nn (nuC (rec_v16 p))=rec_u16 p:=by
  exact(nn_nuC _ (mod_bd _)).trans (rec_w16 p hp)
def rec_v17 (p:P3):Int:=nn (nuC (rec_v13 p))*nn (nuC (rec_v16 p))%pr
def rec_u17 (p:P3):Int:=(rec_u13 p)*(rec_u16 p)%pr
theorem rec_w17 (p:P3) (hp:Nu3 p):rec_v17 p=rec_u17 p:=by
  unfold rec_v17 rec_u17
  simp only[nm_mod,nn_mod,nm_inv,nn_inv,nm_d,nn_d,nm_1,nn_1,nm_root,nn_quo,dr_rpC _ hp,nn_rafX,nn_rafY,nn_i,nn_n,nn_1,nn_absm,rec_x13 p hp,rec_x16 p hp]
theorem rec_x17 (p:P3) (hp:Nu3 p):nn (nuC (rec_v17 p))=rec_u17 p:=by
  exact(nn_nuC _ (mod_bd _)).trans (rec_w17 p hp)
def rec_v18 (p:P3):Int:=absR (nn (nuC (rec_v17 p)))
def rec_u18 (p:P3):Int:=absR ((rec_u17 p))
theorem rec_w18 (p:P3) (hp:Nu3 p):rec_v18 p=rec_u18 p:=by
  unfold rec_v18 rec_u18
  simp only[nm_mod,nn_mod,nm_inv,nn_inv,nm_d,nn_d,nm_1,nn_1,nm_root,nn_quo,dr_rpC _ hp,nn_rafX,nn_rafY,nn_i,nn_n,nn_1,nn_absm,rec_x17 p hp]
theorem rec_x18 (p:P3) (hp:Nu3 p):nn (nuC (rec_v18 p))=rec_u18 p:=by
  exact(nn_nuC _ (bd_absR _ (bd_nn (mod_bd _)))).trans (rec_w18 p hp)
def rec_v19 (p:P3):Int:=(nn (nuC 1) - nn (nuC (rec_v12 p)))%pr
def rec_u19 (p:P3):Int:=(1 - (rec_u12 p))%pr
theorem rec_w19 (p:P3) (hp:Nu3 p):rec_v19 p=rec_u19 p:=by
  unfold rec_v19 rec_u19
  simp only[nm_mod,nn_mod,nm_inv,nn_inv,nm_d,nn_d,nm_1,nn_1,nm_root,nn_quo,dr_rpC _ hp,nn_rafX,nn_rafY,nn_i,nn_n,nn_1,nn_absm,rec_x12 p hp]
theorem rec_x19 (p:P3) (hp:Nu3 p):nn (nuC (rec_v19 p))=rec_u19 p:=by
  exact(nn_nuC _ (mod_bd _)).trans (rec_w19 p hp)
def rec_v20 (p:P3):Int:=nn (nuC (rec_v13 p))*nn (nuC (rec_v19 p))%pr
def rec_u20 (p:P3):Int:=(rec_u13 p)*(rec_u19 p)%pr
theorem rec_w20 (p:P3) (hp:Nu3 p):rec_v20 p=rec_u20 p:=by
  unfold rec_v20 rec_u20
  simp only[nm_mod,nn_mod,nm_inv,nn_inv,nm_d,nn_d,nm_1,nn_1,nm_root,nn_quo,dr_rpC _ hp,nn_rafX,nn_rafY,nn_i,nn_n,nn_1,nn_absm,rec_x13 p hp,rec_x19 p hp]
theorem rec_x20 (p:P3) (hp:Nu3 p):nn (nuC (rec_v20 p))=rec_u20 p:=by
  exact(nn_nuC _ (mod_bd _)).trans (rec_w20 p hp)
def rec_v21 (p:P3):Int:=absR (nn (nuC (rec_v20 p)))
def rec_u21 (p:P3):Int:=absR ((rec_u20 p))
theorem rec_w21 (p:P3) (hp:Nu3 p):rec_v21 p=rec_u21 p:=by
  unfold rec_v21 rec_u21
  simp only[nm_mod,nn_mod,nm_inv,nn_inv,nm_d,nn_d,nm_1,nn_1,nm_root,nn_quo,dr_rpC _ hp,nn_rafX,nn_rafY,nn_i,nn_n,nn_1,nn_absm,rec_x20 p hp]
theorem rec_x21 (p:P3) (hp:Nu3 p):nn (nuC (rec_v21 p))=rec_u21 p:=by
  exact(nn_nuC _ (bd_absR _ (bd_nn (mod_bd _)))).trans (rec_w21 p hp)
def rec_v22 (p:P3):Int:=nn (nuC (rafX (dr (rpC p))))*nn (nuC (rec_v9 p))%pr
def rec_u22 (p:P3):Int:=(rafX (p))*(rec_u9 p)%pr
theorem rec_w22 (p:P3) (hp:Nu3 p):rec_v22 p=rec_u22 p:=by
  unfold rec_v22 rec_u22
  simp only[nm_mod,nn_mod,nm_inv,nn_inv,nm_d,nn_d,nm_1,nn_1,nm_root,nn_quo,dr_rpC _ hp,nn_rafX,nn_rafY,nn_i,nn_n,nn_1,nn_absm,rec_x9 p hp]
theorem rec_x22 (p:P3) (hp:Nu3 p):nn (nuC (rec_v22 p))=rec_u22 p:=by
  exact(nn_nuC _ (mod_bd _)).trans (rec_w22 p hp)
def rec_v23 (p:P3):Int:= -(nn (nuC (rafY (dr (rpC p)))))%pr
def rec_u23 (p:P3):Int:= -((rafY (p)))%pr
theorem rec_w23 (p:P3) (hp:Nu3 p):rec_v23 p=rec_u23 p:=by
  unfold rec_v23 rec_u23
  simp only[nm_mod,nn_mod,nm_inv,nn_inv,nm_d,nn_d,nm_1,nn_1,nm_root,nn_quo,dr_rpC _ hp,nn_rafX,nn_rafY,nn_i,nn_n,nn_1,nn_absm]
theorem rec_x23 (p:P3) (hp:Nu3 p):nn (nuC (rec_v23 p))=rec_u23 p:=by
  exact(nn_nuC _ (mod_bd _)).trans (rec_w23 p hp)
def rec_v24 (p:P3):Int:=(nn (nuC 1) - nn (nuC (rec_v23 p)))%pr
def rec_u24 (p:P3):Int:=(1 - (rec_u23 p))%pr
theorem rec_w24 (p:P3) (hp:Nu3 p):rec_v24 p=rec_u24 p:=by
  unfold rec_v24 rec_u24
  simp only[nm_mod,nn_mod,nm_inv,nn_inv,nm_d,nn_d,nm_1,nn_1,nm_root,nn_quo,dr_rpC _ hp,nn_rafX,nn_rafY,nn_i,nn_n,nn_1,nn_absm,rec_x23 p hp]
theorem rec_x24 (p:P3) (hp:Nu3 p):nn (nuC (rec_v24 p))=rec_u24 p:=by
  exact(nn_nuC _ (mod_bd _)).trans (rec_w24 p hp)
def rec_v25 (p:P3):Int:=nn (nuC (rec_v7 p))*nn (nuC (rec_v24 p))%pr
def rec_u25 (p:P3):Int:=(rec_u7 p)*(rec_u24 p)%pr
theorem rec_w25 (p:P3) (hp:Nu3 p):rec_v25 p=rec_u25 p:=by
  unfold rec_v25 rec_u25
  simp only[nm_mod,nn_mod,nm_inv,nn_inv,nm_d,nn_d,nm_1,nn_1,nm_root,nn_quo,dr_rpC _ hp,nn_rafX,nn_rafY,nn_i,nn_n,nn_1,nn_absm,rec_x7 p hp,rec_x24 p hp]
theorem rec_x25 (p:P3) (hp:Nu3 p):nn (nuC (rec_v25 p))=rec_u25 p:=by
  exact(nn_nuC _ (mod_bd _)).trans (rec_w25 p hp)
def rec_v26 (p:P3):Int:=absR (nn (nuC (rec_v25 p)))
def rec_u26 (p:P3):Int:=absR ((rec_u25 p))
theorem rec_w26 (p:P3) (hp:Nu3 p):rec_v26 p=rec_u26 p:=by
  unfold rec_v26 rec_u26
  simp only[nm_mod,nn_mod,nm_inv,nn_inv,nm_d,nn_d,nm_1,nn_1,nm_root,nn_quo,dr_rpC _ hp,nn_rafX,nn_rafY,nn_i,nn_n,nn_1,nn_absm,rec_x25 p hp]
theorem rec_x26 (p:P3) (hp:Nu3 p):nn (nuC (rec_v26 p))=rec_u26 p:=by
  exact(nn_nuC _ (bd_absR _ (bd_nn (mod_bd _)))).trans (rec_w26 p hp)
def rec_v27 (p:P3):Int:=(nn (nuC 1) - nn (nuC (rafY (dr (rpC p)))))%pr
def rec_u27 (p:P3):Int:=(1 - (rafY (p)))%pr
theorem rec_w27 (p:P3) (hp:Nu3 p):rec_v27 p=rec_u27 p:=by
  unfold rec_v27 rec_u27
  simp only[nm_mod,nn_mod,nm_inv,nn_inv,nm_d,nn_d,nm_1,nn_1,nm_root,nn_quo,dr_rpC _ hp,nn_rafX,nn_rafY,nn_i,nn_n,nn_1,nn_absm]
theorem rec_x27 (p:P3) (hp:Nu3 p):nn (nuC (rec_v27 p))=rec_u27 p:=by
  exact(nn_nuC _ (mod_bd _)).trans (rec_w27 p hp)
def rec_v28 (p:P3):Int:=nn (nuC (rec_v7 p))*nn (nuC (rec_v27 p))%pr
def rec_u28 (p:P3):Int:=(rec_u7 p)*(rec_u27 p)%pr
theorem rec_w28 (p:P3) (hp:Nu3 p):rec_v28 p=rec_u28 p:=by
  unfold rec_v28 rec_u28
  simp only[nm_mod,nn_mod,nm_inv,nn_inv,nm_d,nn_d,nm_1,nn_1,nm_root,nn_quo,dr_rpC _ hp,nn_rafX,nn_rafY,nn_i,nn_n,nn_1,nn_absm,rec_x7 p hp,rec_x27 p hp]
theorem rec_x28 (p:P3) (hp:Nu3 p):nn (nuC (rec_v28 p))=rec_u28 p:=by
  exact(nn_nuC _ (mod_bd _)).trans (rec_w28 p hp)
def rec_v29 (p:P3):Int:=absR (nn (nuC (rec_v28 p)))
def rec_u29 (p:P3):Int:=absR ((rec_u28 p))
theorem rec_w29 (p:P3) (hp:Nu3 p):rec_v29 p=rec_u29 p:=by
  unfold rec_v29 rec_u29
  simp only[nm_mod,nn_mod,nm_inv,nn_inv,nm_d,nn_d,nm_1,nn_1,nm_root,nn_quo,dr_rpC _ hp,nn_rafX,nn_rafY,nn_i,nn_n,nn_1,nn_absm,rec_x28 p hp]
theorem rec_x29 (p:P3) (hp:Nu3 p):nn (nuC (rec_v29 p))=rec_u29 p:=by
  exact(nn_nuC _ (bd_absR _ (bd_nn (mod_bd _)))).trans (rec_w29 p hp)
def rec_h (i:Nat):Hn:=if i=3 then⟨6,[],[],[],[]⟩ else if i=4 then⟨10,[(1,true),(2,true),(3,true),(0,false),(4,false),(5,false),(6,false),(7,true),(8,true),(9,true)],[(11,false),(12,false)],[],[]⟩ else if i=7 then⟨6,[],[],[],[]⟩ else if i=10 then⟨3,[],[],[],[]⟩ else if i=11 then⟨3,[],[],[],[]⟩ else if i=12 then⟨3,[],[],[],[]⟩ else if i=15 then⟨7,[],[],[],[]⟩ else⟨0,[],[],[],[]⟩
theorem rec_0 (p:P3):evF (yty.en tab14) rec_h Tryz.f46 [.agg (rpC p)] [none,some (.bool true),some (.bool true)]=some (.agg (byC (nn (nuC (rec_v18 p)))),((((((((((((((((((((((((((((((((((((((((((((((((((((((((((((((((((((((((((((True∧True)∧rpD.is (rpC p))∧True)∧True)∧True)∧((nuC (rafX (dr (rpC p)))).all (fun v=>v.oneCell')=true))∧((nuC (rafY (dr (rpC p)))).all (fun v=>v.oneCell')=true))∧True)∧True)∧(nuD.is (nuC (rafX (dr (rpC p))))∧nuD.is (nuC (rafY (dr (rpC p))))))∧((nuC (rec_v0 p)).all (fun v=>v.oneCell')=true))∧(IntKind.u64=IntKind.u64∧w64 1))∧True)∧True)∧(nuD.is (nuC (rafY (dr (rpC p))))∧nuD.is (nuC (rafY (dr (rpC p))))))∧(nuD.is (nuC 1)∧nuD.is (nuC (rec_v1 p))))∧((nuC (rec_v2 p)).all (fun v=>v.oneCell')=true))∧True)∧True)∧True)∧(IntKind.u64=IntKind.u64∧w64 1))∧(nuD.is (nuC (rec_v0 p))∧nuD.is (nuC (rec_v0 p))))∧(nuD.is (nuC (rec_v2 p))∧nuD.is (nuC (rec_v3 p))))∧(nuD.is (nuC 1)∧nuD.is (nuC (rec_v4 p))))∧True)∧True)∧True)∧((nuC (rec_v5 p)).all (fun v=>v.oneCell')=true))∧True)∧True)∧True)∧(nuD.is (nuC (rec_v5 p))∧nuD.is (nuC (rec_v2 p))))∧((nuC (rec_v6 p)).all (fun v=>v.oneCell')=true))∧True)∧True)∧(nuD.is (nuC (rec_v5 p))∧nuD.is (nuC (rec_v0 p))))∧((nuC (rec_v7 p)).all (fun v=>v.oneCell')=true))∧True)∧True)∧(nuD.is (nuC (rec_v6 p))∧nuD.is (nuC (rec_v7 p))))∧True)∧(nuD.is (nuC (rec_v8 p))∧nuD.is (nuC (rec_v0 p))))∧((nuC (rec_v9 p)).all (fun v=>v.oneCell')=true))∧True)∧True)∧(nuD.is (nuC (rec_v0 p))∧nuD.is (nuC (rec_v9 p))))∧(nuD.is (nuC (rec_v10 p))∧(decide (nn (nuC (rec_v10 p))%2=1))=true))∧True)∧((nuC (rafX (dr (rpC p)))).all (fun v=>v.oneCell')=true))∧True)∧True)∧(nuD.is (nuC iNum)∧nuD.is (nuC (rafY (dr (rpC p))))))∧((nuC (rec_v11 p)).all (fun v=>v.oneCell')=true))∧True)∧True)∧(nuD.is (nuC iNum)∧nuD.is (nuC (rafX (dr (rpC p))))))∧((nuC (rec_v12 p)).all (fun v=>v.oneCell')=true))∧True)∧True)∧(nuD.is (nuC (rec_v6 p))∧nuD.is (nuC nNum)))∧((nuC (rec_v13 p)).all (fun v=>v.oneCell')=true))∧True)∧True)∧(nuD.is (nuC (rec_v11 p))∧nuD.is (nuC (rec_v9 p))))∧(nuD.is (nuC (rec_v14 p))∧(decide (nn (nuC (rec_v14 p))%2=1))=true))∧True)∧nuD.is (nuC (rec_v12 p)))∧((nuC (rec_v15 p)).all (fun v=>v.oneCell')=true))∧True)∧(IntKind.u64=IntKind.u64∧w64 1))∧True)∧(nuD.is (nuC 1)∧nuD.is (nuC (rec_v15 p))))∧(nuD.is (nuC (rec_v13 p))∧nuD.is (nuC (rec_v16 p))))∧nuD.is (nuC (rec_v17 p)))∧nuD.is (nuC (rec_v18 p)))∧((byC (nn (nuC (rec_v18 p)))).all (fun v=>v.oneCell')=true))):=by kernel_rfl
theorem rec_1 (p:P3):evF (yty.en tab14) rec_h Tryz.f46 [.agg (rpC p)] [none,some (.bool true),some (.bool false)]=some (.agg (byC (nn (nuC (rec_v21 p)))),(((((((((((((((((((((((((((((((((((((((((((((((((((((((((((((((((((((((((True∧True)∧rpD.is (rpC p))∧True)∧True)∧True)∧((nuC (rafX (dr (rpC p)))).all (fun v=>v.oneCell')=true))∧((nuC (rafY (dr (rpC p)))).all (fun v=>v.oneCell')=true))∧True)∧True)∧(nuD.is (nuC (rafX (dr (rpC p))))∧nuD.is (nuC (rafY (dr (rpC p))))))∧((nuC (rec_v0 p)).all (fun v=>v.oneCell')=true))∧(IntKind.u64=IntKind.u64∧w64 1))∧True)∧True)∧(nuD.is (nuC (rafY (dr (rpC p))))∧nuD.is (nuC (rafY (dr (rpC p))))))∧(nuD.is (nuC 1)∧nuD.is (nuC (rec_v1 p))))∧((nuC (rec_v2 p)).all (fun v=>v.oneCell')=true))∧True)∧True)∧True)∧(IntKind.u64=IntKind.u64∧w64 1))∧(nuD.is (nuC (rec_v0 p))∧nuD.is (nuC (rec_v0 p))))∧(nuD.is (nuC (rec_v2 p))∧nuD.is (nuC (rec_v3 p))))∧(nuD.is (nuC 1)∧nuD.is (nuC (rec_v4 p))))∧True)∧True)∧True)∧((nuC (rec_v5 p)).all (fun v=>v.oneCell')=true))∧True)∧True)∧True)∧(nuD.is (nuC (rec_v5 p))∧nuD.is (nuC (rec_v2 p))))∧((nuC (rec_v6 p)).all (fun v=>v.oneCell')=true))∧True)∧True)∧(nuD.is (nuC (rec_v5 p))∧nuD.is (nuC (rec_v0 p))))∧((nuC (rec_v7 p)).all (fun v=>v.oneCell')=true))∧True)∧True)∧(nuD.is (nuC (rec_v6 p))∧nuD.is (nuC (rec_v7 p))))∧True)∧(nuD.is (nuC (rec_v8 p))∧nuD.is (nuC (rec_v0 p))))∧((nuC (rec_v9 p)).all (fun v=>v.oneCell')=true))∧True)∧True)∧(nuD.is (nuC (rec_v0 p))∧nuD.is (nuC (rec_v9 p))))∧(nuD.is (nuC (rec_v10 p))∧(decide (nn (nuC (rec_v10 p))%2=1))=true))∧True)∧((nuC (rafX (dr (rpC p)))).all (fun v=>v.oneCell')=true))∧True)∧True)∧(nuD.is (nuC iNum)∧nuD.is (nuC (rafY (dr (rpC p))))))∧((nuC (rec_v11 p)).all (fun v=>v.oneCell')=true))∧True)∧True)∧(nuD.is (nuC iNum)∧nuD.is (nuC (rafX (dr (rpC p))))))∧((nuC (rec_v12 p)).all (fun v=>v.oneCell')=true))∧True)∧True)∧(nuD.is (nuC (rec_v6 p))∧nuD.is (nuC nNum)))∧((nuC (rec_v13 p)).all (fun v=>v.oneCell')=true))∧True)∧True)∧(nuD.is (nuC (rec_v11 p))∧nuD.is (nuC (rec_v9 p))))∧(nuD.is (nuC (rec_v14 p))∧(decide (nn (nuC (rec_v14 p))%2=1))=false))∧True)∧(IntKind.u64=IntKind.u64∧w64 1))∧True)∧(nuD.is (nuC 1)∧nuD.is (nuC (rec_v12 p))))∧(nuD.is (nuC (rec_v13 p))∧nuD.is (nuC (rec_v19 p))))∧nuD.is (nuC (rec_v20 p)))∧nuD.is (nuC (rec_v21 p)))∧((byC (nn (nuC (rec_v21 p)))).all (fun v=>v.oneCell')=true))):=by kernel_rfl
theorem rec_2 (p:P3):evF (yty.en tab14) rec_h Tryz.f46 [.agg (rpC p)] [none,some (.bool false),some (.bool true)]=some (.agg (byC (nn (nuC (rec_v26 p)))),((((((((((((((((((((((((((((((((((((((((((((((((((((((((((((((True∧True)∧rpD.is (rpC p))∧True)∧True)∧True)∧((nuC (rafX (dr (rpC p)))).all (fun v=>v.oneCell')=true))∧((nuC (rafY (dr (rpC p)))).all (fun v=>v.oneCell')=true))∧True)∧True)∧(nuD.is (nuC (rafX (dr (rpC p))))∧nuD.is (nuC (rafY (dr (rpC p))))))∧((nuC (rec_v0 p)).all (fun v=>v.oneCell')=true))∧(IntKind.u64=IntKind.u64∧w64 1))∧True)∧True)∧(nuD.is (nuC (rafY (dr (rpC p))))∧nuD.is (nuC (rafY (dr (rpC p))))))∧(nuD.is (nuC 1)∧nuD.is (nuC (rec_v1 p))))∧((nuC (rec_v2 p)).all (fun v=>v.oneCell')=true))∧True)∧True)∧True)∧(IntKind.u64=IntKind.u64∧w64 1))∧(nuD.is (nuC (rec_v0 p))∧nuD.is (nuC (rec_v0 p))))∧(nuD.is (nuC (rec_v2 p))∧nuD.is (nuC (rec_v3 p))))∧(nuD.is (nuC 1)∧nuD.is (nuC (rec_v4 p))))∧True)∧True)∧True)∧((nuC (rec_v5 p)).all (fun v=>v.oneCell')=true))∧True)∧True)∧True)∧(nuD.is (nuC (rec_v5 p))∧nuD.is (nuC (rec_v2 p))))∧((nuC (rec_v6 p)).all (fun v=>v.oneCell')=true))∧True)∧True)∧(nuD.is (nuC (rec_v5 p))∧nuD.is (nuC (rec_v0 p))))∧((nuC (rec_v7 p)).all (fun v=>v.oneCell')=true))∧True)∧True)∧(nuD.is (nuC (rec_v6 p))∧nuD.is (nuC (rec_v7 p))))∧True)∧(nuD.is (nuC (rec_v8 p))∧nuD.is (nuC (rec_v0 p))))∧((nuC (rec_v9 p)).all (fun v=>v.oneCell')=true))∧True)∧True)∧(nuD.is (nuC (rec_v0 p))∧nuD.is (nuC (rec_v9 p))))∧(nuD.is (nuC (rec_v10 p))∧(decide (nn (nuC (rec_v10 p))%2=1))=false))∧True)∧True)∧(nuD.is (nuC (rafX (dr (rpC p))))∧nuD.is (nuC (rec_v9 p))))∧(nuD.is (nuC (rec_v22 p))∧(decide (nn (nuC (rec_v22 p))%2=1))=true))∧True)∧nuD.is (nuC (rafY (dr (rpC p)))))∧((nuC (rec_v23 p)).all (fun v=>v.oneCell')=true))∧True)∧(IntKind.u64=IntKind.u64∧w64 1))∧True)∧(nuD.is (nuC 1)∧nuD.is (nuC (rec_v23 p))))∧(nuD.is (nuC (rec_v7 p))∧nuD.is (nuC (rec_v24 p))))∧nuD.is (nuC (rec_v25 p)))∧nuD.is (nuC (rec_v26 p)))∧((byC (nn (nuC (rec_v26 p)))).all (fun v=>v.oneCell')=true))):=by kernel_rfl
theorem rec_3 (p:P3):evF (yty.en tab14) rec_h Tryz.f46 [.agg (rpC p)] [none,some (.bool false),some (.bool false)]=some (.agg (byC (nn (nuC (rec_v29 p)))),(((((((((((((((((((((((((((((((((((((((((((((((((((((((((((True∧True)∧rpD.is (rpC p))∧True)∧True)∧True)∧((nuC (rafX (dr (rpC p)))).all (fun v=>v.oneCell')=true))∧((nuC (rafY (dr (rpC p)))).all (fun v=>v.oneCell')=true))∧True)∧True)∧(nuD.is (nuC (rafX (dr (rpC p))))∧nuD.is (nuC (rafY (dr (rpC p))))))∧((nuC (rec_v0 p)).all (fun v=>v.oneCell')=true))∧(IntKind.u64=IntKind.u64∧w64 1))∧True)∧True)∧(nuD.is (nuC (rafY (dr (rpC p))))∧nuD.is (nuC (rafY (dr (rpC p))))))∧(nuD.is (nuC 1)∧nuD.is (nuC (rec_v1 p))))∧((nuC (rec_v2 p)).all (fun v=>v.oneCell')=true))∧True)∧True)∧True)∧(IntKind.u64=IntKind.u64∧w64 1))∧(nuD.is (nuC (rec_v0 p))∧nuD.is (nuC (rec_v0 p))))∧(nuD.is (nuC (rec_v2 p))∧nuD.is (nuC (rec_v3 p))))∧(nuD.is (nuC 1)∧nuD.is (nuC (rec_v4 p))))∧True)∧True)∧True)∧((nuC (rec_v5 p)).all (fun v=>v.oneCell')=true))∧True)∧True)∧True)∧(nuD.is (nuC (rec_v5 p))∧nuD.is (nuC (rec_v2 p))))∧((nuC (rec_v6 p)).all (fun v=>v.oneCell')=true))∧True)∧True)∧(nuD.is (nuC (rec_v5 p))∧nuD.is (nuC (rec_v0 p))))∧((nuC (rec_v7 p)).all (fun v=>v.oneCell')=true))∧True)∧True)∧(nuD.is (nuC (rec_v6 p))∧nuD.is (nuC (rec_v7 p))))∧True)∧(nuD.is (nuC (rec_v8 p))∧nuD.is (nuC (rec_v0 p))))∧((nuC (rec_v9 p)).all (fun v=>v.oneCell')=true))∧True)∧True)∧(nuD.is (nuC (rec_v0 p))∧nuD.is (nuC (rec_v9 p))))∧(nuD.is (nuC (rec_v10 p))∧(decide (nn (nuC (rec_v10 p))%2=1))=false))∧True)∧True)∧(nuD.is (nuC (rafX (dr (rpC p))))∧nuD.is (nuC (rec_v9 p))))∧(nuD.is (nuC (rec_v22 p))∧(decide (nn (nuC (rec_v22 p))%2=1))=false))∧True)∧(IntKind.u64=IntKind.u64∧w64 1))∧True)∧(nuD.is (nuC 1)∧nuD.is (nuC (rafY (dr (rpC p))))))∧(nuD.is (nuC (rec_v7 p))∧nuD.is (nuC (rec_v27 p))))∧nuD.is (nuC (rec_v28 p)))∧nuD.is (nuC (rec_v29 p)))∧((byC (nn (nuC (rec_v29 p)))).all (fun v=>v.oneCell')=true))):=by kernel_rfl
def rec_F (p:P3):Value:=cond (decide (nn (nuC (rec_v10 p))%2=1)) (cond (decide (nn (nuC (rec_v14 p))%2=1)) (.agg (byC (nn (nuC (rec_v18 p))))) (.agg (byC (nn (nuC (rec_v21 p)))))) (cond (decide (nn (nuC (rec_v22 p))%2=1)) (.agg (byC (nn (nuC (rec_v26 p))))) (.agg (byC (nn (nuC (rec_v29 p))))))
set_option maxHeartbeats 4000000 in
theorem rec_p (p:P3) (hp:Nu3 p):Pure Tryz.prog 46 #[.agg (rpC p)] (rec_F p):=by
  unfold rec_F
  cases h1:(decide (nn (nuC (rec_v10 p))%2=1))
  · skip
    cases h2:(decide (nn (nuC (rec_v22 p))%2=1))
    · skip
      exact pure_of mixed Tryz.func46 _ (rec_3 p) rfl ⟨⟨⟨⟨⟨⟨⟨⟨⟨⟨⟨⟨⟨⟨⟨⟨⟨⟨⟨⟨⟨⟨⟨⟨⟨⟨⟨⟨⟨⟨⟨⟨⟨⟨⟨⟨⟨⟨⟨⟨⟨⟨⟨⟨⟨⟨⟨⟨⟨⟨⟨⟨⟨⟨⟨⟨⟨⟨⟨trivial,trivial⟩,(rpD.is_enc (hp))⟩,trivial⟩,trivial⟩,trivial⟩,one_nu _⟩,one_nu _⟩,trivial⟩,trivial⟩,⟨(nuD.is_enc (mod_bd _)),(nuD.is_enc (mod_bd _))⟩⟩,one_nu _⟩,⟨rfl,⟨by decide,by decide⟩⟩⟩,trivial⟩,trivial⟩,⟨(nuD.is_enc (mod_bd _)),(nuD.is_enc (mod_bd _))⟩⟩,⟨(nuD.is_enc ⟨by decide,by decide⟩),(nuD.is_enc (mod_bd _))⟩⟩,one_nu _⟩,trivial⟩,trivial⟩,trivial⟩,⟨rfl,⟨by decide,by decide⟩⟩⟩,⟨(nuD.is_enc (mod_bd _)),(nuD.is_enc (mod_bd _))⟩⟩,⟨(nuD.is_enc (mod_bd _)),(nuD.is_enc (mod_bd _))⟩⟩,⟨(nuD.is_enc ⟨by decide,by decide⟩),(nuD.is_enc (mod_bd _))⟩⟩,trivial⟩,trivial⟩,trivial⟩,one_nu _⟩,trivial⟩,trivial⟩,trivial⟩,⟨(nuD.is_enc (bd_quoV _ _)),(nuD.is_enc (mod_bd _))⟩⟩,one_nu _⟩,trivial⟩,trivial⟩,⟨(nuD.is_enc (bd_quoV _ _)),(nuD.is_enc (mod_bd _))⟩⟩,one_nu _⟩,trivial⟩,trivial⟩,⟨(nuD.is_enc (mod_bd _)),(nuD.is_enc (mod_bd _))⟩⟩,trivial⟩,⟨(nuD.is_enc (mod_bd _)),(nuD.is_enc (mod_bd _))⟩⟩,one_nu _⟩,trivial⟩,trivial⟩,⟨(nuD.is_enc (mod_bd _)),(nuD.is_enc (mod_bd _))⟩⟩,⟨(nuD.is_enc (mod_bd _)),h1⟩⟩,trivial⟩,trivial⟩,⟨(nuD.is_enc (mod_bd _)),(nuD.is_enc (mod_bd _))⟩⟩,⟨(nuD.is_enc (mod_bd _)),h2⟩⟩,trivial⟩,⟨rfl,⟨by decide,by decide⟩⟩⟩,trivial⟩,⟨(nuD.is_enc ⟨by decide,by decide⟩),(nuD.is_enc (mod_bd _))⟩⟩,⟨(nuD.is_enc (mod_bd _)),(nuD.is_enc (mod_bd _))⟩⟩,(nuD.is_enc (mod_bd _))⟩,(nuD.is_enc (bd_absR _ (bd_nn (mod_bd _))))⟩,byK_one _ _⟩
    · skip
      exact pure_of mixed Tryz.func46 _ (rec_2 p) rfl ⟨⟨⟨⟨⟨⟨⟨⟨⟨⟨⟨⟨⟨⟨⟨⟨⟨⟨⟨⟨⟨⟨⟨⟨⟨⟨⟨⟨⟨⟨⟨⟨⟨⟨⟨⟨⟨⟨⟨⟨⟨⟨⟨⟨⟨⟨⟨⟨⟨⟨⟨⟨⟨⟨⟨⟨⟨⟨⟨⟨⟨⟨trivial,trivial⟩,(rpD.is_enc (hp))⟩,trivial⟩,trivial⟩,trivial⟩,one_nu _⟩,one_nu _⟩,trivial⟩,trivial⟩,⟨(nuD.is_enc (mod_bd _)),(nuD.is_enc (mod_bd _))⟩⟩,one_nu _⟩,⟨rfl,⟨by decide,by decide⟩⟩⟩,trivial⟩,trivial⟩,⟨(nuD.is_enc (mod_bd _)),(nuD.is_enc (mod_bd _))⟩⟩,⟨(nuD.is_enc ⟨by decide,by decide⟩),(nuD.is_enc (mod_bd _))⟩⟩,one_nu _⟩,trivial⟩,trivial⟩,trivial⟩,⟨rfl,⟨by decide,by decide⟩⟩⟩,⟨(nuD.is_enc (mod_bd _)),(nuD.is_enc (mod_bd _))⟩⟩,⟨(nuD.is_enc (mod_bd _)),(nuD.is_enc (mod_bd _))⟩⟩,⟨(nuD.is_enc ⟨by decide,by decide⟩),(nuD.is_enc (mod_bd _))⟩⟩,trivial⟩,trivial⟩,trivial⟩,one_nu _⟩,trivial⟩,trivial⟩,trivial⟩,⟨(nuD.is_enc (bd_quoV _ _)),(nuD.is_enc (mod_bd _))⟩⟩,one_nu _⟩,trivial⟩,trivial⟩,⟨(nuD.is_enc (bd_quoV _ _)),(nuD.is_enc (mod_bd _))⟩⟩,one_nu _⟩,trivial⟩,trivial⟩,⟨(nuD.is_enc (mod_bd _)),(nuD.is_enc (mod_bd _))⟩⟩,trivial⟩,⟨(nuD.is_enc (mod_bd _)),(nuD.is_enc (mod_bd _))⟩⟩,one_nu _⟩,trivial⟩,trivial⟩,⟨(nuD.is_enc (mod_bd _)),(nuD.is_enc (mod_bd _))⟩⟩,⟨(nuD.is_enc (mod_bd _)),h1⟩⟩,trivial⟩,trivial⟩,⟨(nuD.is_enc (mod_bd _)),(nuD.is_enc (mod_bd _))⟩⟩,⟨(nuD.is_enc (mod_bd _)),h2⟩⟩,trivial⟩,(nuD.is_enc (mod_bd _))⟩,one_nu _⟩,trivial⟩,⟨rfl,⟨by decide,by decide⟩⟩⟩,trivial⟩,⟨(nuD.is_enc ⟨by decide,by decide⟩),(nuD.is_enc (mod_bd _))⟩⟩,⟨(nuD.is_enc (mod_bd _)),(nuD.is_enc (mod_bd _))⟩⟩,(nuD.is_enc (mod_bd _))⟩,(nuD.is_enc (bd_absR _ (bd_nn (mod_bd _))))⟩,byK_one _ _⟩
  · skip
    cases h2:(decide (nn (nuC (rec_v14 p))%2=1))
    · skip
      exact pure_of mixed Tryz.func46 _ (rec_1 p) rfl ⟨⟨⟨⟨⟨⟨⟨⟨⟨⟨⟨⟨⟨⟨⟨⟨⟨⟨⟨⟨⟨⟨⟨⟨⟨⟨⟨⟨⟨⟨⟨⟨⟨⟨⟨⟨⟨⟨⟨⟨⟨⟨⟨⟨⟨⟨⟨⟨⟨⟨⟨⟨⟨⟨⟨⟨⟨⟨⟨⟨⟨⟨⟨⟨⟨⟨⟨⟨⟨⟨⟨⟨⟨trivial,trivial⟩,(rpD.is_enc (hp))⟩,trivial⟩,trivial⟩,trivial⟩,one_nu _⟩,one_nu _⟩,trivial⟩,trivial⟩,⟨(nuD.is_enc (mod_bd _)),(nuD.is_enc (mod_bd _))⟩⟩,one_nu _⟩,⟨rfl,⟨by decide,by decide⟩⟩⟩,trivial⟩,trivial⟩,⟨(nuD.is_enc (mod_bd _)),(nuD.is_enc (mod_bd _))⟩⟩,⟨(nuD.is_enc ⟨by decide,by decide⟩),(nuD.is_enc (mod_bd _))⟩⟩,one_nu _⟩,trivial⟩,trivial⟩,trivial⟩,⟨rfl,⟨by decide,by decide⟩⟩⟩,⟨(nuD.is_enc (mod_bd _)),(nuD.is_enc (mod_bd _))⟩⟩,⟨(nuD.is_enc (mod_bd _)),(nuD.is_enc (mod_bd _))⟩⟩,⟨(nuD.is_enc ⟨by decide,by decide⟩),(nuD.is_enc (mod_bd _))⟩⟩,trivial⟩,trivial⟩,trivial⟩,one_nu _⟩,trivial⟩,trivial⟩,trivial⟩,⟨(nuD.is_enc (bd_quoV _ _)),(nuD.is_enc (mod_bd _))⟩⟩,one_nu _⟩,trivial⟩,trivial⟩,⟨(nuD.is_enc (bd_quoV _ _)),(nuD.is_enc (mod_bd _))⟩⟩,one_nu _⟩,trivial⟩,trivial⟩,⟨(nuD.is_enc (mod_bd _)),(nuD.is_enc (mod_bd _))⟩⟩,trivial⟩,⟨(nuD.is_enc (mod_bd _)),(nuD.is_enc (mod_bd _))⟩⟩,one_nu _⟩,trivial⟩,trivial⟩,⟨(nuD.is_enc (mod_bd _)),(nuD.is_enc (mod_bd _))⟩⟩,⟨(nuD.is_enc (mod_bd _)),h1⟩⟩,trivial⟩,one_nu _⟩,trivial⟩,trivial⟩,⟨(nuD.is_enc (bd_iNum)),(nuD.is_enc (mod_bd _))⟩⟩,one_nu _⟩,trivial⟩,trivial⟩,⟨(nuD.is_enc (bd_iNum)),(nuD.is_enc (mod_bd _))⟩⟩,one_nu _⟩,trivial⟩,trivial⟩,⟨(nuD.is_enc (mod_bd _)),(nuD.is_enc (bd_nNum))⟩⟩,one_nu _⟩,trivial⟩,trivial⟩,⟨(nuD.is_enc (mod_bd _)),(nuD.is_enc (mod_bd _))⟩⟩,⟨(nuD.is_enc (mod_bd _)),h2⟩⟩,trivial⟩,⟨rfl,⟨by decide,by decide⟩⟩⟩,trivial⟩,⟨(nuD.is_enc ⟨by decide,by decide⟩),(nuD.is_enc (mod_bd _))⟩⟩,⟨(nuD.is_enc (mod_bd _)),(nuD.is_enc (mod_bd _))⟩⟩,(nuD.is_enc (mod_bd _))⟩,(nuD.is_enc (bd_absR _ (bd_nn (mod_bd _))))⟩,byK_one _ _⟩
    · skip
      exact pure_of mixed Tryz.func46 _ (rec_0 p) rfl ⟨⟨⟨⟨⟨⟨⟨⟨⟨⟨⟨⟨⟨⟨⟨⟨⟨⟨⟨⟨⟨⟨⟨⟨⟨⟨⟨⟨⟨⟨⟨⟨⟨⟨⟨⟨⟨⟨⟨⟨⟨⟨⟨⟨⟨⟨⟨⟨⟨⟨⟨⟨⟨⟨⟨⟨⟨⟨⟨⟨⟨⟨⟨⟨⟨⟨⟨⟨⟨⟨⟨⟨⟨⟨⟨⟨trivial,trivial⟩,(rpD.is_enc (hp))⟩,trivial⟩,trivial⟩,trivial⟩,one_nu _⟩,one_nu _⟩,trivial⟩,trivial⟩,⟨(nuD.is_enc (mod_bd _)),(nuD.is_enc (mod_bd _))⟩⟩,one_nu _⟩,⟨rfl,⟨by decide,by decide⟩⟩⟩,trivial⟩,trivial⟩,⟨(nuD.is_enc (mod_bd _)),(nuD.is_enc (mod_bd _))⟩⟩,⟨(nuD.is_enc ⟨by decide,by decide⟩),(nuD.is_enc (mod_bd _))⟩⟩,one_nu _⟩,trivial⟩,trivial⟩,trivial⟩,⟨rfl,⟨by decide,by decide⟩⟩⟩,⟨(nuD.is_enc (mod_bd _)),(nuD.is_enc (mod_bd _))⟩⟩,⟨(nuD.is_enc (mod_bd _)),(nuD.is_enc (mod_bd _))⟩⟩,⟨(nuD.is_enc ⟨by decide,by decide⟩),(nuD.is_enc (mod_bd _))⟩⟩,trivial⟩,trivial⟩,trivial⟩,one_nu _⟩,trivial⟩,trivial⟩,trivial⟩,⟨(nuD.is_enc (bd_quoV _ _)),(nuD.is_enc (mod_bd _))⟩⟩,one_nu _⟩,trivial⟩,trivial⟩,⟨(nuD.is_enc (bd_quoV _ _)),(nuD.is_enc (mod_bd _))⟩⟩,one_nu _⟩,trivial⟩,trivial⟩,⟨(nuD.is_enc (mod_bd _)),(nuD.is_enc (mod_bd _))⟩⟩,trivial⟩,⟨(nuD.is_enc (mod_bd _)),(nuD.is_enc (mod_bd _))⟩⟩,one_nu _⟩,trivial⟩,trivial⟩,⟨(nuD.is_enc (mod_bd _)),(nuD.is_enc (mod_bd _))⟩⟩,⟨(nuD.is_enc (mod_bd _)),h1⟩⟩,trivial⟩,one_nu _⟩,trivial⟩,trivial⟩,⟨(nuD.is_enc (bd_iNum)),(nuD.is_enc (mod_bd _))⟩⟩,one_nu _⟩,trivial⟩,trivial⟩,⟨(nuD.is_enc (bd_iNum)),(nuD.is_enc (mod_bd _))⟩⟩,one_nu _⟩,trivial⟩,trivial⟩,⟨(nuD.is_enc (mod_bd _)),(nuD.is_enc (bd_nNum))⟩⟩,one_nu _⟩,trivial⟩,trivial⟩,⟨(nuD.is_enc (mod_bd _)),(nuD.is_enc (mod_bd _))⟩⟩,⟨(nuD.is_enc (mod_bd _)),h2⟩⟩,trivial⟩,(nuD.is_enc (mod_bd _))⟩,one_nu _⟩,trivial⟩,⟨rfl,⟨by decide,by decide⟩⟩⟩,trivial⟩,⟨(nuD.is_enc ⟨by decide,by decide⟩),(nuD.is_enc (mod_bd _))⟩⟩,⟨(nuD.is_enc (mod_bd _)),(nuD.is_enc (mod_bd _))⟩⟩,(nuD.is_enc (mod_bd _))⟩,(nuD.is_enc (bd_absR _ (bd_nn (mod_bd _))))⟩,byK_one _ _⟩
def rec_S (p:P3):Value:=cond (decide ((rec_u10 p)%2=1)) (cond (decide ((rec_u14 p)%2=1)) (.agg (byC ((rec_u18 p)))) (.agg (byC ((rec_u21 p))))) (cond (decide ((rec_u22 p)%2=1)) (.agg (byC ((rec_u26 p)))) (.agg (byC ((rec_u29 p)))))
theorem rec_e (p:P3) (hp:Nu3 p):rec_F p=rec_S p:=by
  unfold rec_F rec_S
  try simp only[nm_mod,nn_mod,nm_inv,nn_inv,nm_d,nn_d,nm_1,nn_1,nm_root,nn_quo,dr_rpC _ hp,nn_rafX,nn_rafY,nn_i,nn_n,nn_1,nn_absm,rec_x0 p hp,rec_x1 p hp,rec_x2 p hp,rec_x3 p hp,rec_x4 p hp,rec_x5 p hp,rec_x6 p hp,rec_x7 p hp,rec_x8 p hp,rec_x9 p hp,rec_x10 p hp,rec_x11 p hp,rec_x12 p hp,rec_x13 p hp,rec_x14 p hp,rec_x15 p hp,rec_x16 p hp,rec_x17 p hp,rec_x18 p hp,rec_x19 p hp,rec_x20 p hp,rec_x21 p hp,rec_x22 p hp,rec_x23 p hp,rec_x24 p hp,rec_x25 p hp,rec_x26 p hp,rec_x27 p hp,rec_x28 p hp,rec_x29 p hp]
  try simp only[rec_w0 p hp,rec_w1 p hp,rec_w2 p hp,rec_w3 p hp,rec_w4 p hp,rec_w5 p hp,rec_w6 p hp,rec_w7 p hp,rec_w8 p hp,rec_w9 p hp,rec_w10 p hp,rec_w11 p hp,rec_w12 p hp,rec_w13 p hp,rec_w14 p hp,rec_w15 p hp,rec_w16 p hp,rec_w17 p hp,rec_w18 p hp,rec_w19 p hp,rec_w20 p hp,rec_w21 p hp,rec_w22 p hp,rec_w23 p hp,rec_w24 p hp,rec_w25 p hp,rec_w26 p hp,rec_w27 p hp,rec_w28 p hp,rec_w29 p hp]
def rencI (p:P3):Int:=((encE (fp (rafX p)) (fp (rafY p)) 1 (fp (rafX p)*fp (rafY p))).val:Int)
theorem aggr (x:Int):Value.agg (byC (absR (x%pr)))= .agg (byC ((ab (fp x)).val:Int)):=by rw[absR_val]
theorem diff (y:Fp):1 - y*y=(1+y)*(1 - y):=by grind -lia
theorem rec_eq (p:P3):rec_S p= .agg (byC (rencI p)):=by
  unfold rec_S
  delta rec_u0 rec_u1 rec_u2 rec_u3 rec_u4 rec_u5 rec_u6 rec_u7 rec_u8 rec_u9 rec_u10 rec_u11 rec_u12 rec_u13 rec_u14 rec_u15 rec_u16 rec_u17 rec_u18 rec_u19 rec_u20 rec_u21 rec_u22 rec_u23 rec_u24 rec_u25 rec_u26 rec_u27 rec_u28 rec_u29
  simp only[ob_fp,aggr,quoV1,fp_mod,fp_mul,fp_add,fp_sub,fp_neg,fp_one,fp_i,fp_n,cagg,diff]
  unfold rencI encE encR encC
  rfl
theorem REncode_c (p:P3) (hp:Nu3 p):Pure Tryz.prog 46 #[.agg (rpC p)] (.agg (byC (rencI p))):=by
  have h:=rec_p p hp
  rwa[rec_e p hp,rec_eq] at h
def qEnc:Entry Tryz.prog:=ent1 Tryz.func46 (by kernel_rfl) (by kernel_rfl) rpD (fun p=> .agg (byC (rencI p))) REncode_c
theorem renc_rep {p:P3} {a:Pt} (h:RepN p a):rencI p=((enc a).val:Int):=by
  obtain⟨_,z,hx,hy⟩:=h
  have hj:=fi_ok z
  have e1:fp (rafX p)=a.x:=by
    unfold rafX
    rw[fp_mod,fp_mul,fi_fp,hx,show a.x*fp p.Z*fi (fp p.Z)=a.x*(fp p.Z*fi (fp p.Z)) by clear hj;grind -lia,hj,mul1]
  have e2:fp (rafY p)=a.y:=by
    unfold rafY
    rw[fp_mod,fp_mul,fi_fp,hy,show a.y*fp p.Z*fi (fp p.Z)=a.y*(fp p.Z*fi (fp p.Z)) by clear hj;grind -lia,hj,mul1]
  unfold rencI
  rw[e1,e2]
  unfold enc
  rfl
def tab15:List (Entry Tryz.prog):=qEnc :: tab14
end Go.Proofs.YtdebkddhpogkgaaGreat

set_option linter.unusedSimpArgs false
set_option linter.unusedVariables false
/-! What is encoded comes back; the base's bytes. -/
namespace Go.Proofs.YtdebkddhpogkgaaGreat
open Go.RowKit Go.Ev Go.Num
theorem decB_enc {a:Pt} (h:Evn a):decB ((enc a).val:Int)=true:=by
  rw[decB_iff,fp_surj]
  exact⟨Int.emod_eq_of_lt (fval_bd _).1 (fval_bd _).2,enc_ev a,(enc_dec h).1⟩
theorem dec_enc_rep {a:Pt} (h:Evn a):RepP (decI ((enc a).val:Int)) (can a):=by
  obtain⟨hb,R⟩:=dec_rep (decB_enc h)
  have key:∀ f (e:f=enc a) (hb:dB f=true),decP f hb=can a:=by
    rintro f rfl hb
    exact(enc_dec h).2 hb
  rw[key _ (fp_surj _) hb] at R
  exact R
theorem enc_num {a:Pt} {s f y:Fp} (hs:s*s=1 - a.y*a.y) (hc:(can a).y=y) (hf:¬ od f) (h:f*f*(1+y)=1 - y):enc a=f:=by
  have h1:=enc_char ⟨s,hs⟩
  have h2:=(can_ok a).2.2.2.1
  rw[hc] at h1 h2
  exact f_uniq h2 (enc_ev a) hf h1 h
theorem can_fo {a:Pt} (h0:¬ a.x*a.y=0) (h1:od (a.x*a.y)) (h2:od (iE*a.y)):(can a).y= -(iE*a.x):=by
  unfold can pick
  rw[if_neg h0,if_pos h1,if_pos (by rw[flip_x];exact h2),opp_y,flip_y]
theorem od_n {x:Int} (h:x%pr%2=1):od (fp x):=by
  rw[← ob_iff,← ob_fp];exact decide_eq_true h
theorem nod_n {x:Int} (h:¬ x%pr%2=1):¬ od (fp x):=by
  rw[← ob_no,← ob_fp];exact decide_eq_false h
def eBN:Int:=53453403443306840533278073560698739391446669128918427283046925944918568268514
def sBN:Int:=34737626771194858627071295502606372355980995399692169211837275202373938891970
theorem base_s:fp sBN*fp sBN=1 - base.y*base.y:=by
  show fp sBN*fp sBN=1 - fp byN*fp byN
  rw[← fp_one,← fp_mul,← fp_mul,← fp_sub,fp_eq]
  decide
theorem evn_base:Evn base:=⟨_,base_s⟩
theorem enc_base:enc base=fp eBN:=by
  refine enc_num base_s (y:= -(fp iNum*fp bxN)) (can_fo ?_ ?_ ?_) (nod_n (by decide)) ?_
  · show ¬ fp bxN * fp byN = 0
    rw[← fp_mul,fp_eq0];decide
  · show od (fp bxN * fp byN)
    rw[← fp_mul];exact od_n (by decide)
  · show od (fp iNum * fp byN)
    rw[← fp_mul];exact od_n (by decide)
  · rw [← fp_one]
    simp only[← fp_mul,← fp_neg,← fp_add,← fp_sub]
    rw[fp_eq]
    decide
theorem encI_base:encI (ofP bxN byN)=eBN:=by
  rw[enc_repP rep_base,enc_base,fp_val]
  decide
end Go.Proofs.YtdebkddhpogkgaaGreat

set_option linter.unusedSimpArgs false
set_option linter.unusedVariables false
/-! Half of a map. -/
namespace Go.Proofs.YtdebkddhpogkgaaGreat
open Go.RowKit Go.Ev
end Go.Proofs.YtdebkddhpogkgaaGreat

set_option linter.unusedSimpArgs false
set_option linter.unusedVariables false
/-! Map. -/
namespace Go.Proofs.YtdebkddhpogkgaaGreat
open Go.RowKit Go.Ev
end Go.Proofs.YtdebkddhpogkgaaGreat
