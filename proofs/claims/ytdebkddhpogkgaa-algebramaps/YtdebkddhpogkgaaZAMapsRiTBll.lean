import Derived.Test.YtdebkddhpogkgaaZAMapsRiTAll
set_option linter.unusedSimpArgs false
set_option linter.unusedVariables false
namespace Go.Proofs.Ytdebkddhpogkgaa
open Go.RowKit Go.Ev
def tab16:List (Entry Try.prog):=tab15
def tab17:List (Entry Try.prog):=tab16
theorem db_encI (p:P4):db (byC (encI p))=encI p:=db_byC _ (ok_encI p)
theorem db_rencI (p:P3):db (byC (rencI p))=rencI p:=db_byC _ (ok_rencI p)
theorem dp_dec (n:Int):dp (ptC (decI n))=decI n:=dp_ptC _ (ok4_dec n)
def tab18:List (Entry Try.prog):=tab17
end Go.Proofs.Ytdebkddhpogkgaa

set_option linter.unusedSimpArgs false
set_option linter.unusedVariables false
namespace Go.Proofs.Ytdebkddhpogkgaa
open Go.RowKit Go.Ev
theorem byt_bys {f:Nat→Int} (h:∀ j,0≤f j∧f j<256) (j:Nat) (hj:j<32):byt (numL ((List.range 32).map f)) j=f j:=by
  have hb:=bys_bd h
  have hl:((List.range 32).map f).length=32:=by simp
  have hn:=byL_numL _ hb
  rw[hl] at hn
  have:=congrArg (fun l:List Int=>l[j]?) hn
  simpa[byL,hj] using this
def lowF (f:Nat→Int):Int:=numL ((List.range 31).map f ++ [f 31%128])
theorem lowF_ext {f g:Nat→Int} (h:∀ j,j<31→f j=g j) (h2:f 31%128=g 31%128):lowF f=lowF g:=by
  unfold lowF
  rw[h2,List.map_congr_left (g:=g) (fun j hj=>h j (List.mem_range.1 hj))]
theorem low_of {f:Nat→Int} (h:∀ j,0≤f j∧f j<256):lowN (numL ((List.range 32).map f))=lowF f:=by
  refine lowF_ext (f:=fun j=>byt (numL ((List.range 32).map f)) j) (g:=f) (fun j hj=>byt_bys h j (by omega)) ?_
  rw[byt_bys h 31 (by omega)]
theorem mapE_F (n:Int):mapE n=(halfE (fp (lowF (byt n)))).add (halfE (fp (lowF (fun j=>byt n (32+j))))):=by
  unfold mapE fstN fstL lstN lstL
  rw[low_of (fun j=>byt_bd n j),low_of (fun j=>byt_bd n (32+j))]
theorem dp_map (n:Int):dp (ptC (mapI n))=mapI n:=dp_ptC _ (ok4_map n)
end Go.Proofs.Ytdebkddhpogkgaa

set_option linter.unusedSimpArgs false
set_option linter.unusedVariables false
/-! The document's map: halves of a row that is somebody else's. -/
namespace Go.Proofs.Ytdebkddhpogkgaa
open Go.RowKit Go.Ev
def lowV (f:Nat→Int):Array Value:=(((List.range 31).map fun j=>Value.int .u8 (f j)) ++ [Value.int .u8 (Int.tmod (f 31) 128)]).toArray
theorem lowV_C {f:Nat→Int} (h:∀ j,0≤f j∧f j<256):lowV f=byC (lowF f)∧Ok (lowF f):=by
  have hb : ∀ x ∈ (List.range 31).map f ++ [f 31 % 128], 0 ≤ x ∧ x < 256 := fun x hx => by
    rcases List.mem_append.1 hx with hx|hx
    · obtain⟨j,_,rfl⟩:=List.mem_map.1 hx;exact h j
    · have : x = f 31 % 128 := by simpa using hx
      omega
  have hl:((List.range 31).map f ++ [f 31%128]).length=32:=by simp
  constructor
  · rw [byC_list]
    have:=byL_numL _ hb
    rw[hl] at this
    unfold lowV lowF
    rw[this,List.map_append,List.map_map,Int.tmod_eq_emod_of_nonneg (h 31).1]
    rfl
  · have := numL_bd _ hb
    rw[hl,m4_256] at this
    exact this
theorem is_lowV {f:Nat→Int} (h:∀ j,0≤f j∧f j<256):byD.is (lowV f):=by
  rw[(lowV_C h).1];exact byD.is_enc (lowV_C h).2
theorem db_lowV {f:Nat→Int} (h:∀ j,0≤f j∧f j<256):db (lowV f)=lowF f:=by
  rw[(lowV_C h).1];exact db_byC _ (lowV_C h).2
theorem nn_mN:nn (nuC mNum)=mNum:=nn_nuC _ bd_mNum
theorem nn_quoV (a b:Int):nn (nuC (quoV a b))=quoV a b:=nn_nuC _ (bd_quoV a b)
theorem db_lowf {f:Nat→Int} (h:∀ j,0≤f j∧f j<256):db (lowV f)=lowF f:=db_lowV h
def rh_v0 (a:Array Value) (f:Nat→Int) (o c:Nat):Int:=nn (nuC (db (lowV f)%pr))*nn (nuC (db (lowV f)%pr))%pr
def rh_u0 (a:Array Value) (f:Nat→Int) (o c:Nat):Int:=(db (lowV f)%pr)*(db (lowV f)%pr)%pr
theorem rh_w0 (a:Array Value) (f:Nat→Int) (o c:Nat) (hb:∀ j,0≤f j∧f j<256) (hf:∀ k,k<32→a[o+k]? =some (.int .u8 (f k))):rh_v0 a f o c=rh_u0 a f o c:=by
  unfold rh_v0 rh_u0
  simp only[nm_mod,nn_mod,nm_inv,nn_inv,nm_d,nn_d,nm_1,nn_1,nm_root,nn_quo,db_lowf hb,nn_i,nn_absm,nn_2,nn_mN,nn_quoV]
theorem rh_x0 (a:Array Value) (f:Nat→Int) (o c:Nat) (hb:∀ j,0≤f j∧f j<256) (hf:∀ k,k<32→a[o+k]? =some (.int .u8 (f k))):nn (nuC (rh_v0 a f o c))=rh_u0 a f o c:=by
  exact(nn_nuC _ (mod_bd _)).trans (rh_w0 a f o c hb hf)
def rh_v1 (a:Array Value) (f:Nat→Int) (o c:Nat):Int:=nn (nuC iNum)*nn (nuC (rh_v0 a f o c))%pr
def rh_u1 (a:Array Value) (f:Nat→Int) (o c:Nat):Int:=iNum*(rh_u0 a f o c)%pr
theorem rh_w1 (a:Array Value) (f:Nat→Int) (o c:Nat) (hb:∀ j,0≤f j∧f j<256) (hf:∀ k,k<32→a[o+k]? =some (.int .u8 (f k))):rh_v1 a f o c=rh_u1 a f o c:=by
  unfold rh_v1 rh_u1
  simp only[nm_mod,nn_mod,nm_inv,nn_inv,nm_d,nn_d,nm_1,nn_1,nm_root,nn_quo,db_lowf hb,nn_i,nn_absm,nn_2,nn_mN,nn_quoV,rh_x0 a f o c hb hf]
theorem rh_x1 (a:Array Value) (f:Nat→Int) (o c:Nat) (hb:∀ j,0≤f j∧f j<256) (hf:∀ k,k<32→a[o+k]? =some (.int .u8 (f k))):nn (nuC (rh_v1 a f o c))=rh_u1 a f o c:=by
  exact(nn_nuC _ (mod_bd _)).trans (rh_w1 a f o c hb hf)
def rh_v2 (a:Array Value) (f:Nat→Int) (o c:Nat):Int:=(nn (nuC (rh_v1 a f o c))+nn (nuC 1))%pr
def rh_u2 (a:Array Value) (f:Nat→Int) (o c:Nat):Int:=((rh_u1 a f o c)+1)%pr
theorem rh_w2 (a:Array Value) (f:Nat→Int) (o c:Nat) (hb:∀ j,0≤f j∧f j<256) (hf:∀ k,k<32→a[o+k]? =some (.int .u8 (f k))):rh_v2 a f o c=rh_u2 a f o c:=by
  unfold rh_v2 rh_u2
  simp only[nm_mod,nn_mod,nm_inv,nn_inv,nm_d,nn_d,nm_1,nn_1,nm_root,nn_quo,db_lowf hb,nn_i,nn_absm,nn_2,nn_mN,nn_quoV,rh_x1 a f o c hb hf]
theorem rh_x2 (a:Array Value) (f:Nat→Int) (o c:Nat) (hb:∀ j,0≤f j∧f j<256) (hf:∀ k,k<32→a[o+k]? =some (.int .u8 (f k))):nn (nuC (rh_v2 a f o c))=rh_u2 a f o c:=by
  exact(nn_nuC _ (mod_bd _)).trans (rh_w2 a f o c hb hf)
def rh_v3 (a:Array Value) (f:Nat→Int) (o c:Nat):Int:=nn (nuC dN)*nn (nuC dN)%pr
def rh_u3 (a:Array Value) (f:Nat→Int) (o c:Nat):Int:=dN*dN%pr
theorem rh_w3 (a:Array Value) (f:Nat→Int) (o c:Nat) (hb:∀ j,0≤f j∧f j<256) (hf:∀ k,k<32→a[o+k]? =some (.int .u8 (f k))):rh_v3 a f o c=rh_u3 a f o c:=by
  unfold rh_v3 rh_u3
  simp only[nm_mod,nn_mod,nm_inv,nn_inv,nm_d,nn_d,nm_1,nn_1,nm_root,nn_quo,db_lowf hb,nn_i,nn_absm,nn_2,nn_mN,nn_quoV]
theorem rh_x3 (a:Array Value) (f:Nat→Int) (o c:Nat) (hb:∀ j,0≤f j∧f j<256) (hf:∀ k,k<32→a[o+k]? =some (.int .u8 (f k))):nn (nuC (rh_v3 a f o c))=rh_u3 a f o c:=by
  exact(nn_nuC _ (mod_bd _)).trans (rh_w3 a f o c hb hf)
def rh_v4 (a:Array Value) (f:Nat→Int) (o c:Nat):Int:=(nn (nuC 1) - nn (nuC (rh_v3 a f o c)))%pr
def rh_u4 (a:Array Value) (f:Nat→Int) (o c:Nat):Int:=(1 - (rh_u3 a f o c))%pr
theorem rh_w4 (a:Array Value) (f:Nat→Int) (o c:Nat) (hb:∀ j,0≤f j∧f j<256) (hf:∀ k,k<32→a[o+k]? =some (.int .u8 (f k))):rh_v4 a f o c=rh_u4 a f o c:=by
  unfold rh_v4 rh_u4
  simp only[nm_mod,nn_mod,nm_inv,nn_inv,nm_d,nn_d,nm_1,nn_1,nm_root,nn_quo,db_lowf hb,nn_i,nn_absm,nn_2,nn_mN,nn_quoV,rh_x3 a f o c hb hf]
theorem rh_x4 (a:Array Value) (f:Nat→Int) (o c:Nat) (hb:∀ j,0≤f j∧f j<256) (hf:∀ k,k<32→a[o+k]? =some (.int .u8 (f k))):nn (nuC (rh_v4 a f o c))=rh_u4 a f o c:=by
  exact(nn_nuC _ (mod_bd _)).trans (rh_w4 a f o c hb hf)
def rh_v5 (a:Array Value) (f:Nat→Int) (o c:Nat):Int:=nn (nuC (rh_v2 a f o c))*nn (nuC (rh_v4 a f o c))%pr
def rh_u5 (a:Array Value) (f:Nat→Int) (o c:Nat):Int:=(rh_u2 a f o c)*(rh_u4 a f o c)%pr
theorem rh_w5 (a:Array Value) (f:Nat→Int) (o c:Nat) (hb:∀ j,0≤f j∧f j<256) (hf:∀ k,k<32→a[o+k]? =some (.int .u8 (f k))):rh_v5 a f o c=rh_u5 a f o c:=by
  unfold rh_v5 rh_u5
  simp only[nm_mod,nn_mod,nm_inv,nn_inv,nm_d,nn_d,nm_1,nn_1,nm_root,nn_quo,db_lowf hb,nn_i,nn_absm,nn_2,nn_mN,nn_quoV,rh_x2 a f o c hb hf,rh_x4 a f o c hb hf]
theorem rh_x5 (a:Array Value) (f:Nat→Int) (o c:Nat) (hb:∀ j,0≤f j∧f j<256) (hf:∀ k,k<32→a[o+k]? =some (.int .u8 (f k))):nn (nuC (rh_v5 a f o c))=rh_u5 a f o c:=by
  exact(nn_nuC _ (mod_bd _)).trans (rh_w5 a f o c hb hf)
def rh_v6 (a:Array Value) (f:Nat→Int) (o c:Nat):Int:=nn (nuC (rh_v1 a f o c))*nn (nuC dN)%pr
def rh_u6 (a:Array Value) (f:Nat→Int) (o c:Nat):Int:=(rh_u1 a f o c)*dN%pr
theorem rh_w6 (a:Array Value) (f:Nat→Int) (o c:Nat) (hb:∀ j,0≤f j∧f j<256) (hf:∀ k,k<32→a[o+k]? =some (.int .u8 (f k))):rh_v6 a f o c=rh_u6 a f o c:=by
  unfold rh_v6 rh_u6
  simp only[nm_mod,nn_mod,nm_inv,nn_inv,nm_d,nn_d,nm_1,nn_1,nm_root,nn_quo,db_lowf hb,nn_i,nn_absm,nn_2,nn_mN,nn_quoV,rh_x1 a f o c hb hf]
theorem rh_x6 (a:Array Value) (f:Nat→Int) (o c:Nat) (hb:∀ j,0≤f j∧f j<256) (hf:∀ k,k<32→a[o+k]? =some (.int .u8 (f k))):nn (nuC (rh_v6 a f o c))=rh_u6 a f o c:=by
  exact(nn_nuC _ (mod_bd _)).trans (rh_w6 a f o c hb hf)
def rh_v7 (a:Array Value) (f:Nat→Int) (o c:Nat):Int:=(nn (nuC (-(nn (nuC 1))%pr)) - nn (nuC (rh_v6 a f o c)))%pr
def rh_u7 (a:Array Value) (f:Nat→Int) (o c:Nat):Int:=((-(1)%pr) - (rh_u6 a f o c))%pr
theorem rh_w7 (a:Array Value) (f:Nat→Int) (o c:Nat) (hb:∀ j,0≤f j∧f j<256) (hf:∀ k,k<32→a[o+k]? =some (.int .u8 (f k))):rh_v7 a f o c=rh_u7 a f o c:=by
  unfold rh_v7 rh_u7
  simp only[nm_mod,nn_mod,nm_inv,nn_inv,nm_d,nn_d,nm_1,nn_1,nm_root,nn_quo,db_lowf hb,nn_i,nn_absm,nn_2,nn_mN,nn_quoV,rh_x6 a f o c hb hf]
theorem rh_x7 (a:Array Value) (f:Nat→Int) (o c:Nat) (hb:∀ j,0≤f j∧f j<256) (hf:∀ k,k<32→a[o+k]? =some (.int .u8 (f k))):nn (nuC (rh_v7 a f o c))=rh_u7 a f o c:=by
  exact(nn_nuC _ (mod_bd _)).trans (rh_w7 a f o c hb hf)
def rh_v8 (a:Array Value) (f:Nat→Int) (o c:Nat):Int:=(nn (nuC (rh_v1 a f o c))+nn (nuC dN))%pr
def rh_u8 (a:Array Value) (f:Nat→Int) (o c:Nat):Int:=((rh_u1 a f o c)+dN)%pr
theorem rh_w8 (a:Array Value) (f:Nat→Int) (o c:Nat) (hb:∀ j,0≤f j∧f j<256) (hf:∀ k,k<32→a[o+k]? =some (.int .u8 (f k))):rh_v8 a f o c=rh_u8 a f o c:=by
  unfold rh_v8 rh_u8
  simp only[nm_mod,nn_mod,nm_inv,nn_inv,nm_d,nn_d,nm_1,nn_1,nm_root,nn_quo,db_lowf hb,nn_i,nn_absm,nn_2,nn_mN,nn_quoV,rh_x1 a f o c hb hf]
theorem rh_x8 (a:Array Value) (f:Nat→Int) (o c:Nat) (hb:∀ j,0≤f j∧f j<256) (hf:∀ k,k<32→a[o+k]? =some (.int .u8 (f k))):nn (nuC (rh_v8 a f o c))=rh_u8 a f o c:=by
  exact(nn_nuC _ (mod_bd _)).trans (rh_w8 a f o c hb hf)
def rh_v9 (a:Array Value) (f:Nat→Int) (o c:Nat):Int:=nn (nuC (rh_v7 a f o c))*nn (nuC (rh_v8 a f o c))%pr
def rh_u9 (a:Array Value) (f:Nat→Int) (o c:Nat):Int:=(rh_u7 a f o c)*(rh_u8 a f o c)%pr
theorem rh_w9 (a:Array Value) (f:Nat→Int) (o c:Nat) (hb:∀ j,0≤f j∧f j<256) (hf:∀ k,k<32→a[o+k]? =some (.int .u8 (f k))):rh_v9 a f o c=rh_u9 a f o c:=by
  unfold rh_v9 rh_u9
  simp only[nm_mod,nn_mod,nm_inv,nn_inv,nm_d,nn_d,nm_1,nn_1,nm_root,nn_quo,db_lowf hb,nn_i,nn_absm,nn_2,nn_mN,nn_quoV,rh_x7 a f o c hb hf,rh_x8 a f o c hb hf]
theorem rh_x9 (a:Array Value) (f:Nat→Int) (o c:Nat) (hb:∀ j,0≤f j∧f j<256) (hf:∀ k,k<32→a[o+k]? =some (.int .u8 (f k))):nn (nuC (rh_v9 a f o c))=rh_u9 a f o c:=by
  exact(nn_nuC _ (mod_bd _)).trans (rh_w9 a f o c hb hf)
def rh_v10 (a:Array Value) (f:Nat→Int) (o c:Nat):Int:=quoV (nn (nuC (rh_v5 a f o c))) (nn (nuC (rh_v9 a f o c)))
def rh_u10 (a:Array Value) (f:Nat→Int) (o c:Nat):Int:=quoV ((rh_u5 a f o c)) ((rh_u9 a f o c))
theorem rh_w10 (a:Array Value) (f:Nat→Int) (o c:Nat) (hb:∀ j,0≤f j∧f j<256) (hf:∀ k,k<32→a[o+k]? =some (.int .u8 (f k))):rh_v10 a f o c=rh_u10 a f o c:=by
  unfold rh_v10 rh_u10
  simp only[nm_mod,nn_mod,nm_inv,nn_inv,nm_d,nn_d,nm_1,nn_1,nm_root,nn_quo,db_lowf hb,nn_i,nn_absm,nn_2,nn_mN,nn_quoV,rh_x5 a f o c hb hf,rh_x9 a f o c hb hf]
theorem rh_x10 (a:Array Value) (f:Nat→Int) (o c:Nat) (hb:∀ j,0≤f j∧f j<256) (hf:∀ k,k<32→a[o+k]? =some (.int .u8 (f k))):nn (nuC (rh_v10 a f o c))=rh_u10 a f o c:=by
  exact(nn_nuC _ (bd_quoV _ _)).trans (rh_w10 a f o c hb hf)
def rh_v11 (a:Array Value) (f:Nat→Int) (o c:Nat):Int:=(nn (nuC dN) - nn (nuC 1))%pr
def rh_u11 (a:Array Value) (f:Nat→Int) (o c:Nat):Int:=(dN - 1)%pr
theorem rh_w11 (a:Array Value) (f:Nat→Int) (o c:Nat) (hb:∀ j,0≤f j∧f j<256) (hf:∀ k,k<32→a[o+k]? =some (.int .u8 (f k))):rh_v11 a f o c=rh_u11 a f o c:=by
  unfold rh_v11 rh_u11
  simp only[nm_mod,nn_mod,nm_inv,nn_inv,nm_d,nn_d,nm_1,nn_1,nm_root,nn_quo,db_lowf hb,nn_i,nn_absm,nn_2,nn_mN,nn_quoV]
theorem rh_x11 (a:Array Value) (f:Nat→Int) (o c:Nat) (hb:∀ j,0≤f j∧f j<256) (hf:∀ k,k<32→a[o+k]? =some (.int .u8 (f k))):nn (nuC (rh_v11 a f o c))=rh_u11 a f o c:=by
  exact(nn_nuC _ (mod_bd _)).trans (rh_w11 a f o c hb hf)
def rh_v12 (a:Array Value) (f:Nat→Int) (o c:Nat):Int:=(nn (nuC (rh_v1 a f o c)) - nn (nuC 1))%pr
def rh_u12 (a:Array Value) (f:Nat→Int) (o c:Nat):Int:=((rh_u1 a f o c) - 1)%pr
theorem rh_w12 (a:Array Value) (f:Nat→Int) (o c:Nat) (hb:∀ j,0≤f j∧f j<256) (hf:∀ k,k<32→a[o+k]? =some (.int .u8 (f k))):rh_v12 a f o c=rh_u12 a f o c:=by
  unfold rh_v12 rh_u12
  simp only[nm_mod,nn_mod,nm_inv,nn_inv,nm_d,nn_d,nm_1,nn_1,nm_root,nn_quo,db_lowf hb,nn_i,nn_absm,nn_2,nn_mN,nn_quoV,rh_x1 a f o c hb hf]
theorem rh_x12 (a:Array Value) (f:Nat→Int) (o c:Nat) (hb:∀ j,0≤f j∧f j<256) (hf:∀ k,k<32→a[o+k]? =some (.int .u8 (f k))):nn (nuC (rh_v12 a f o c))=rh_u12 a f o c:=by
  exact(nn_nuC _ (mod_bd _)).trans (rh_w12 a f o c hb hf)
def rh_v13 (a:Array Value) (f:Nat→Int) (o c:Nat):Int:=nn (nuC (-(nn (nuC 1))%pr))*nn (nuC (rh_v12 a f o c))%pr
def rh_u13 (a:Array Value) (f:Nat→Int) (o c:Nat):Int:=(-(1)%pr)*(rh_u12 a f o c)%pr
theorem rh_w13 (a:Array Value) (f:Nat→Int) (o c:Nat) (hb:∀ j,0≤f j∧f j<256) (hf:∀ k,k<32→a[o+k]? =some (.int .u8 (f k))):rh_v13 a f o c=rh_u13 a f o c:=by
  unfold rh_v13 rh_u13
  simp only[nm_mod,nn_mod,nm_inv,nn_inv,nm_d,nn_d,nm_1,nn_1,nm_root,nn_quo,db_lowf hb,nn_i,nn_absm,nn_2,nn_mN,nn_quoV,rh_x12 a f o c hb hf]
theorem rh_x13 (a:Array Value) (f:Nat→Int) (o c:Nat) (hb:∀ j,0≤f j∧f j<256) (hf:∀ k,k<32→a[o+k]? =some (.int .u8 (f k))):nn (nuC (rh_v13 a f o c))=rh_u13 a f o c:=by
  exact(nn_nuC _ (mod_bd _)).trans (rh_w13 a f o c hb hf)
def rh_v14 (a:Array Value) (f:Nat→Int) (o c:Nat):Int:=nn (nuC (rh_v11 a f o c))*nn (nuC (rh_v11 a f o c))%pr
def rh_u14 (a:Array Value) (f:Nat→Int) (o c:Nat):Int:=(rh_u11 a f o c)*(rh_u11 a f o c)%pr
theorem rh_w14 (a:Array Value) (f:Nat→Int) (o c:Nat) (hb:∀ j,0≤f j∧f j<256) (hf:∀ k,k<32→a[o+k]? =some (.int .u8 (f k))):rh_v14 a f o c=rh_u14 a f o c:=by
  unfold rh_v14 rh_u14
  simp only[nm_mod,nn_mod,nm_inv,nn_inv,nm_d,nn_d,nm_1,nn_1,nm_root,nn_quo,db_lowf hb,nn_i,nn_absm,nn_2,nn_mN,nn_quoV,rh_x11 a f o c hb hf]
theorem rh_x14 (a:Array Value) (f:Nat→Int) (o c:Nat) (hb:∀ j,0≤f j∧f j<256) (hf:∀ k,k<32→a[o+k]? =some (.int .u8 (f k))):nn (nuC (rh_v14 a f o c))=rh_u14 a f o c:=by
  exact(nn_nuC _ (mod_bd _)).trans (rh_w14 a f o c hb hf)
def rh_v15 (a:Array Value) (f:Nat→Int) (o c:Nat):Int:=nn (nuC (rh_v13 a f o c))*nn (nuC (rh_v14 a f o c))%pr
def rh_u15 (a:Array Value) (f:Nat→Int) (o c:Nat):Int:=(rh_u13 a f o c)*(rh_u14 a f o c)%pr
theorem rh_w15 (a:Array Value) (f:Nat→Int) (o c:Nat) (hb:∀ j,0≤f j∧f j<256) (hf:∀ k,k<32→a[o+k]? =some (.int .u8 (f k))):rh_v15 a f o c=rh_u15 a f o c:=by
  unfold rh_v15 rh_u15
  simp only[nm_mod,nn_mod,nm_inv,nn_inv,nm_d,nn_d,nm_1,nn_1,nm_root,nn_quo,db_lowf hb,nn_i,nn_absm,nn_2,nn_mN,nn_quoV,rh_x13 a f o c hb hf,rh_x14 a f o c hb hf]
theorem rh_x15 (a:Array Value) (f:Nat→Int) (o c:Nat) (hb:∀ j,0≤f j∧f j<256) (hf:∀ k,k<32→a[o+k]? =some (.int .u8 (f k))):nn (nuC (rh_v15 a f o c))=rh_u15 a f o c:=by
  exact(nn_nuC _ (mod_bd _)).trans (rh_w15 a f o c hb hf)
def rh_v16 (a:Array Value) (f:Nat→Int) (o c:Nat):Int:=(nn (nuC (rh_v15 a f o c)) - nn (nuC (rh_v9 a f o c)))%pr
def rh_u16 (a:Array Value) (f:Nat→Int) (o c:Nat):Int:=((rh_u15 a f o c) - (rh_u9 a f o c))%pr
theorem rh_w16 (a:Array Value) (f:Nat→Int) (o c:Nat) (hb:∀ j,0≤f j∧f j<256) (hf:∀ k,k<32→a[o+k]? =some (.int .u8 (f k))):rh_v16 a f o c=rh_u16 a f o c:=by
  unfold rh_v16 rh_u16
  simp only[nm_mod,nn_mod,nm_inv,nn_inv,nm_d,nn_d,nm_1,nn_1,nm_root,nn_quo,db_lowf hb,nn_i,nn_absm,nn_2,nn_mN,nn_quoV,rh_x9 a f o c hb hf,rh_x15 a f o c hb hf]
theorem rh_x16 (a:Array Value) (f:Nat→Int) (o c:Nat) (hb:∀ j,0≤f j∧f j<256) (hf:∀ k,k<32→a[o+k]? =some (.int .u8 (f k))):nn (nuC (rh_v16 a f o c))=rh_u16 a f o c:=by
  exact(nn_nuC _ (mod_bd _)).trans (rh_w16 a f o c hb hf)
def rh_v17 (a:Array Value) (f:Nat→Int) (o c:Nat):Int:=nn (nuC (rh_v10 a f o c))*nn (nuC (rh_v9 a f o c))%pr
def rh_u17 (a:Array Value) (f:Nat→Int) (o c:Nat):Int:=(rh_u10 a f o c)*(rh_u9 a f o c)%pr
theorem rh_w17 (a:Array Value) (f:Nat→Int) (o c:Nat) (hb:∀ j,0≤f j∧f j<256) (hf:∀ k,k<32→a[o+k]? =some (.int .u8 (f k))):rh_v17 a f o c=rh_u17 a f o c:=by
  unfold rh_v17 rh_u17
  simp only[nm_mod,nn_mod,nm_inv,nn_inv,nm_d,nn_d,nm_1,nn_1,nm_root,nn_quo,db_lowf hb,nn_i,nn_absm,nn_2,nn_mN,nn_quoV,rh_x9 a f o c hb hf,rh_x10 a f o c hb hf]
theorem rh_x17 (a:Array Value) (f:Nat→Int) (o c:Nat) (hb:∀ j,0≤f j∧f j<256) (hf:∀ k,k<32→a[o+k]? =some (.int .u8 (f k))):nn (nuC (rh_v17 a f o c))=rh_u17 a f o c:=by
  exact(nn_nuC _ (mod_bd _)).trans (rh_w17 a f o c hb hf)
def rh_v18 (a:Array Value) (f:Nat→Int) (o c:Nat):Int:=nn (nuC 2)*nn (nuC (rh_v17 a f o c))%pr
def rh_u18 (a:Array Value) (f:Nat→Int) (o c:Nat):Int:=2*(rh_u17 a f o c)%pr
theorem rh_w18 (a:Array Value) (f:Nat→Int) (o c:Nat) (hb:∀ j,0≤f j∧f j<256) (hf:∀ k,k<32→a[o+k]? =some (.int .u8 (f k))):rh_v18 a f o c=rh_u18 a f o c:=by
  unfold rh_v18 rh_u18
  simp only[nm_mod,nn_mod,nm_inv,nn_inv,nm_d,nn_d,nm_1,nn_1,nm_root,nn_quo,db_lowf hb,nn_i,nn_absm,nn_2,nn_mN,nn_quoV,rh_x17 a f o c hb hf]
theorem rh_x18 (a:Array Value) (f:Nat→Int) (o c:Nat) (hb:∀ j,0≤f j∧f j<256) (hf:∀ k,k<32→a[o+k]? =some (.int .u8 (f k))):nn (nuC (rh_v18 a f o c))=rh_u18 a f o c:=by
  exact(nn_nuC _ (mod_bd _)).trans (rh_w18 a f o c hb hf)
def rh_v19 (a:Array Value) (f:Nat→Int) (o c:Nat):Int:=nn (nuC (rh_v16 a f o c))*nn (nuC mNum)%pr
def rh_u19 (a:Array Value) (f:Nat→Int) (o c:Nat):Int:=(rh_u16 a f o c)*mNum%pr
theorem rh_w19 (a:Array Value) (f:Nat→Int) (o c:Nat) (hb:∀ j,0≤f j∧f j<256) (hf:∀ k,k<32→a[o+k]? =some (.int .u8 (f k))):rh_v19 a f o c=rh_u19 a f o c:=by
  unfold rh_v19 rh_u19
  simp only[nm_mod,nn_mod,nm_inv,nn_inv,nm_d,nn_d,nm_1,nn_1,nm_root,nn_quo,db_lowf hb,nn_i,nn_absm,nn_2,nn_mN,nn_quoV,rh_x16 a f o c hb hf]
theorem rh_x19 (a:Array Value) (f:Nat→Int) (o c:Nat) (hb:∀ j,0≤f j∧f j<256) (hf:∀ k,k<32→a[o+k]? =some (.int .u8 (f k))):nn (nuC (rh_v19 a f o c))=rh_u19 a f o c:=by
  exact(nn_nuC _ (mod_bd _)).trans (rh_w19 a f o c hb hf)
def rh_v20 (a:Array Value) (f:Nat→Int) (o c:Nat):Int:=nn (nuC (rh_v10 a f o c))*nn (nuC (rh_v10 a f o c))%pr
def rh_u20 (a:Array Value) (f:Nat→Int) (o c:Nat):Int:=(rh_u10 a f o c)*(rh_u10 a f o c)%pr
theorem rh_w20 (a:Array Value) (f:Nat→Int) (o c:Nat) (hb:∀ j,0≤f j∧f j<256) (hf:∀ k,k<32→a[o+k]? =some (.int .u8 (f k))):rh_v20 a f o c=rh_u20 a f o c:=by
  unfold rh_v20 rh_u20
  simp only[nm_mod,nn_mod,nm_inv,nn_inv,nm_d,nn_d,nm_1,nn_1,nm_root,nn_quo,db_lowf hb,nn_i,nn_absm,nn_2,nn_mN,nn_quoV,rh_x10 a f o c hb hf]
theorem rh_x20 (a:Array Value) (f:Nat→Int) (o c:Nat) (hb:∀ j,0≤f j∧f j<256) (hf:∀ k,k<32→a[o+k]? =some (.int .u8 (f k))):nn (nuC (rh_v20 a f o c))=rh_u20 a f o c:=by
  exact(nn_nuC _ (mod_bd _)).trans (rh_w20 a f o c hb hf)
def rh_v21 (a:Array Value) (f:Nat→Int) (o c:Nat):Int:=(nn (nuC 1) - nn (nuC (rh_v20 a f o c)))%pr
def rh_u21 (a:Array Value) (f:Nat→Int) (o c:Nat):Int:=(1 - (rh_u20 a f o c))%pr
theorem rh_w21 (a:Array Value) (f:Nat→Int) (o c:Nat) (hb:∀ j,0≤f j∧f j<256) (hf:∀ k,k<32→a[o+k]? =some (.int .u8 (f k))):rh_v21 a f o c=rh_u21 a f o c:=by
  unfold rh_v21 rh_u21
  simp only[nm_mod,nn_mod,nm_inv,nn_inv,nm_d,nn_d,nm_1,nn_1,nm_root,nn_quo,db_lowf hb,nn_i,nn_absm,nn_2,nn_mN,nn_quoV,rh_x20 a f o c hb hf]
theorem rh_x21 (a:Array Value) (f:Nat→Int) (o c:Nat) (hb:∀ j,0≤f j∧f j<256) (hf:∀ k,k<32→a[o+k]? =some (.int .u8 (f k))):nn (nuC (rh_v21 a f o c))=rh_u21 a f o c:=by
  exact(nn_nuC _ (mod_bd _)).trans (rh_w21 a f o c hb hf)
def rh_v22 (a:Array Value) (f:Nat→Int) (o c:Nat):Int:=(nn (nuC 1)+nn (nuC (rh_v20 a f o c)))%pr
def rh_u22 (a:Array Value) (f:Nat→Int) (o c:Nat):Int:=(1+(rh_u20 a f o c))%pr
theorem rh_w22 (a:Array Value) (f:Nat→Int) (o c:Nat) (hb:∀ j,0≤f j∧f j<256) (hf:∀ k,k<32→a[o+k]? =some (.int .u8 (f k))):rh_v22 a f o c=rh_u22 a f o c:=by
  unfold rh_v22 rh_u22
  simp only[nm_mod,nn_mod,nm_inv,nn_inv,nm_d,nn_d,nm_1,nn_1,nm_root,nn_quo,db_lowf hb,nn_i,nn_absm,nn_2,nn_mN,nn_quoV,rh_x20 a f o c hb hf]
theorem rh_x22 (a:Array Value) (f:Nat→Int) (o c:Nat) (hb:∀ j,0≤f j∧f j<256) (hf:∀ k,k<32→a[o+k]? =some (.int .u8 (f k))):nn (nuC (rh_v22 a f o c))=rh_u22 a f o c:=by
  exact(nn_nuC _ (mod_bd _)).trans (rh_w22 a f o c hb hf)
def rh_v23 (a:Array Value) (f:Nat→Int) (o c:Nat):Int:=nn (nuC (rh_v18 a f o c))*nn (nuC (rh_v22 a f o c))%pr
def rh_u23 (a:Array Value) (f:Nat→Int) (o c:Nat):Int:=(rh_u18 a f o c)*(rh_u22 a f o c)%pr
theorem rh_w23 (a:Array Value) (f:Nat→Int) (o c:Nat) (hb:∀ j,0≤f j∧f j<256) (hf:∀ k,k<32→a[o+k]? =some (.int .u8 (f k))):rh_v23 a f o c=rh_u23 a f o c:=by
  unfold rh_v23 rh_u23
  simp only[nm_mod,nn_mod,nm_inv,nn_inv,nm_d,nn_d,nm_1,nn_1,nm_root,nn_quo,db_lowf hb,nn_i,nn_absm,nn_2,nn_mN,nn_quoV,rh_x18 a f o c hb hf,rh_x22 a f o c hb hf]
theorem rh_x23 (a:Array Value) (f:Nat→Int) (o c:Nat) (hb:∀ j,0≤f j∧f j<256) (hf:∀ k,k<32→a[o+k]? =some (.int .u8 (f k))):nn (nuC (rh_v23 a f o c))=rh_u23 a f o c:=by
  exact(nn_nuC _ (mod_bd _)).trans (rh_w23 a f o c hb hf)
def rh_v24 (a:Array Value) (f:Nat→Int) (o c:Nat):Int:=nn (nuC (rh_v21 a f o c))*nn (nuC (rh_v19 a f o c))%pr
def rh_u24 (a:Array Value) (f:Nat→Int) (o c:Nat):Int:=(rh_u21 a f o c)*(rh_u19 a f o c)%pr
theorem rh_w24 (a:Array Value) (f:Nat→Int) (o c:Nat) (hb:∀ j,0≤f j∧f j<256) (hf:∀ k,k<32→a[o+k]? =some (.int .u8 (f k))):rh_v24 a f o c=rh_u24 a f o c:=by
  unfold rh_v24 rh_u24
  simp only[nm_mod,nn_mod,nm_inv,nn_inv,nm_d,nn_d,nm_1,nn_1,nm_root,nn_quo,db_lowf hb,nn_i,nn_absm,nn_2,nn_mN,nn_quoV,rh_x19 a f o c hb hf,rh_x21 a f o c hb hf]
theorem rh_x24 (a:Array Value) (f:Nat→Int) (o c:Nat) (hb:∀ j,0≤f j∧f j<256) (hf:∀ k,k<32→a[o+k]? =some (.int .u8 (f k))):nn (nuC (rh_v24 a f o c))=rh_u24 a f o c:=by
  exact(nn_nuC _ (mod_bd _)).trans (rh_w24 a f o c hb hf)
def rh_v25 (a:Array Value) (f:Nat→Int) (o c:Nat):Int:=nn (nuC (rh_v19 a f o c))*nn (nuC (rh_v22 a f o c))%pr
def rh_u25 (a:Array Value) (f:Nat→Int) (o c:Nat):Int:=(rh_u19 a f o c)*(rh_u22 a f o c)%pr
theorem rh_w25 (a:Array Value) (f:Nat→Int) (o c:Nat) (hb:∀ j,0≤f j∧f j<256) (hf:∀ k,k<32→a[o+k]? =some (.int .u8 (f k))):rh_v25 a f o c=rh_u25 a f o c:=by
  unfold rh_v25 rh_u25
  simp only[nm_mod,nn_mod,nm_inv,nn_inv,nm_d,nn_d,nm_1,nn_1,nm_root,nn_quo,db_lowf hb,nn_i,nn_absm,nn_2,nn_mN,nn_quoV,rh_x19 a f o c hb hf,rh_x22 a f o c hb hf]
theorem rh_x25 (a:Array Value) (f:Nat→Int) (o c:Nat) (hb:∀ j,0≤f j∧f j<256) (hf:∀ k,k<32→a[o+k]? =some (.int .u8 (f k))):nn (nuC (rh_v25 a f o c))=rh_u25 a f o c:=by
  exact(nn_nuC _ (mod_bd _)).trans (rh_w25 a f o c hb hf)
def rh_v26 (a:Array Value) (f:Nat→Int) (o c:Nat):Int:=nn (nuC (rh_v10 a f o c))*nn (nuC (db (lowV f)%pr))%pr
def rh_u26 (a:Array Value) (f:Nat→Int) (o c:Nat):Int:=(rh_u10 a f o c)*(db (lowV f)%pr)%pr
theorem rh_w26 (a:Array Value) (f:Nat→Int) (o c:Nat) (hb:∀ j,0≤f j∧f j<256) (hf:∀ k,k<32→a[o+k]? =some (.int .u8 (f k))):rh_v26 a f o c=rh_u26 a f o c:=by
  unfold rh_v26 rh_u26
  simp only[nm_mod,nn_mod,nm_inv,nn_inv,nm_d,nn_d,nm_1,nn_1,nm_root,nn_quo,db_lowf hb,nn_i,nn_absm,nn_2,nn_mN,nn_quoV,rh_x10 a f o c hb hf]
theorem rh_x26 (a:Array Value) (f:Nat→Int) (o c:Nat) (hb:∀ j,0≤f j∧f j<256) (hf:∀ k,k<32→a[o+k]? =some (.int .u8 (f k))):nn (nuC (rh_v26 a f o c))=rh_u26 a f o c:=by
  exact(nn_nuC _ (mod_bd _)).trans (rh_w26 a f o c hb hf)
def rh_v27 (a:Array Value) (f:Nat→Int) (o c:Nat):Int:=absR (nn (nuC (rh_v26 a f o c)))
def rh_u27 (a:Array Value) (f:Nat→Int) (o c:Nat):Int:=absR ((rh_u26 a f o c))
theorem rh_w27 (a:Array Value) (f:Nat→Int) (o c:Nat) (hb:∀ j,0≤f j∧f j<256) (hf:∀ k,k<32→a[o+k]? =some (.int .u8 (f k))):rh_v27 a f o c=rh_u27 a f o c:=by
  unfold rh_v27 rh_u27
  simp only[nm_mod,nn_mod,nm_inv,nn_inv,nm_d,nn_d,nm_1,nn_1,nm_root,nn_quo,db_lowf hb,nn_i,nn_absm,nn_2,nn_mN,nn_quoV,rh_x26 a f o c hb hf]
theorem rh_x27 (a:Array Value) (f:Nat→Int) (o c:Nat) (hb:∀ j,0≤f j∧f j<256) (hf:∀ k,k<32→a[o+k]? =some (.int .u8 (f k))):nn (nuC (rh_v27 a f o c))=rh_u27 a f o c:=by
  exact(nn_nuC _ (bd_absR _ (bd_nn (mod_bd _)))).trans (rh_w27 a f o c hb hf)
def rh_v28 (a:Array Value) (f:Nat→Int) (o c:Nat):Int:= -(nn (nuC (rh_v27 a f o c)))%pr
def rh_u28 (a:Array Value) (f:Nat→Int) (o c:Nat):Int:= -((rh_u27 a f o c))%pr
theorem rh_w28 (a:Array Value) (f:Nat→Int) (o c:Nat) (hb:∀ j,0≤f j∧f j<256) (hf:∀ k,k<32→a[o+k]? =some (.int .u8 (f k))):rh_v28 a f o c=rh_u28 a f o c:=by
  unfold rh_v28 rh_u28
  simp only[nm_mod,nn_mod,nm_inv,nn_inv,nm_d,nn_d,nm_1,nn_1,nm_root,nn_quo,db_lowf hb,nn_i,nn_absm,nn_2,nn_mN,nn_quoV,rh_x27 a f o c hb hf]
theorem rh_x28 (a:Array Value) (f:Nat→Int) (o c:Nat) (hb:∀ j,0≤f j∧f j<256) (hf:∀ k,k<32→a[o+k]? =some (.int .u8 (f k))):nn (nuC (rh_v28 a f o c))=rh_u28 a f o c:=by
  exact(nn_nuC _ (mod_bd _)).trans (rh_w28 a f o c hb hf)
def rh_v29 (a:Array Value) (f:Nat→Int) (o c:Nat):Int:=nn (nuC (rh_v1 a f o c))*nn (nuC (rh_v12 a f o c))%pr
def rh_u29 (a:Array Value) (f:Nat→Int) (o c:Nat):Int:=(rh_u1 a f o c)*(rh_u12 a f o c)%pr
theorem rh_w29 (a:Array Value) (f:Nat→Int) (o c:Nat) (hb:∀ j,0≤f j∧f j<256) (hf:∀ k,k<32→a[o+k]? =some (.int .u8 (f k))):rh_v29 a f o c=rh_u29 a f o c:=by
  unfold rh_v29 rh_u29
  simp only[nm_mod,nn_mod,nm_inv,nn_inv,nm_d,nn_d,nm_1,nn_1,nm_root,nn_quo,db_lowf hb,nn_i,nn_absm,nn_2,nn_mN,nn_quoV,rh_x1 a f o c hb hf,rh_x12 a f o c hb hf]
theorem rh_x29 (a:Array Value) (f:Nat→Int) (o c:Nat) (hb:∀ j,0≤f j∧f j<256) (hf:∀ k,k<32→a[o+k]? =some (.int .u8 (f k))):nn (nuC (rh_v29 a f o c))=rh_u29 a f o c:=by
  exact(nn_nuC _ (mod_bd _)).trans (rh_w29 a f o c hb hf)
def rh_v30 (a:Array Value) (f:Nat→Int) (o c:Nat):Int:=nn (nuC (rh_v29 a f o c))*nn (nuC (rh_v14 a f o c))%pr
def rh_u30 (a:Array Value) (f:Nat→Int) (o c:Nat):Int:=(rh_u29 a f o c)*(rh_u14 a f o c)%pr
theorem rh_w30 (a:Array Value) (f:Nat→Int) (o c:Nat) (hb:∀ j,0≤f j∧f j<256) (hf:∀ k,k<32→a[o+k]? =some (.int .u8 (f k))):rh_v30 a f o c=rh_u30 a f o c:=by
  unfold rh_v30 rh_u30
  simp only[nm_mod,nn_mod,nm_inv,nn_inv,nm_d,nn_d,nm_1,nn_1,nm_root,nn_quo,db_lowf hb,nn_i,nn_absm,nn_2,nn_mN,nn_quoV,rh_x14 a f o c hb hf,rh_x29 a f o c hb hf]
theorem rh_x30 (a:Array Value) (f:Nat→Int) (o c:Nat) (hb:∀ j,0≤f j∧f j<256) (hf:∀ k,k<32→a[o+k]? =some (.int .u8 (f k))):nn (nuC (rh_v30 a f o c))=rh_u30 a f o c:=by
  exact(nn_nuC _ (mod_bd _)).trans (rh_w30 a f o c hb hf)
def rh_v31 (a:Array Value) (f:Nat→Int) (o c:Nat):Int:=(nn (nuC (rh_v30 a f o c)) - nn (nuC (rh_v9 a f o c)))%pr
def rh_u31 (a:Array Value) (f:Nat→Int) (o c:Nat):Int:=((rh_u30 a f o c) - (rh_u9 a f o c))%pr
theorem rh_w31 (a:Array Value) (f:Nat→Int) (o c:Nat) (hb:∀ j,0≤f j∧f j<256) (hf:∀ k,k<32→a[o+k]? =some (.int .u8 (f k))):rh_v31 a f o c=rh_u31 a f o c:=by
  unfold rh_v31 rh_u31
  simp only[nm_mod,nn_mod,nm_inv,nn_inv,nm_d,nn_d,nm_1,nn_1,nm_root,nn_quo,db_lowf hb,nn_i,nn_absm,nn_2,nn_mN,nn_quoV,rh_x9 a f o c hb hf,rh_x30 a f o c hb hf]
theorem rh_x31 (a:Array Value) (f:Nat→Int) (o c:Nat) (hb:∀ j,0≤f j∧f j<256) (hf:∀ k,k<32→a[o+k]? =some (.int .u8 (f k))):nn (nuC (rh_v31 a f o c))=rh_u31 a f o c:=by
  exact(nn_nuC _ (mod_bd _)).trans (rh_w31 a f o c hb hf)
def rh_v32 (a:Array Value) (f:Nat→Int) (o c:Nat):Int:=nn (nuC (rh_v28 a f o c))*nn (nuC (rh_v9 a f o c))%pr
def rh_u32 (a:Array Value) (f:Nat→Int) (o c:Nat):Int:=(rh_u28 a f o c)*(rh_u9 a f o c)%pr
theorem rh_w32 (a:Array Value) (f:Nat→Int) (o c:Nat) (hb:∀ j,0≤f j∧f j<256) (hf:∀ k,k<32→a[o+k]? =some (.int .u8 (f k))):rh_v32 a f o c=rh_u32 a f o c:=by
  unfold rh_v32 rh_u32
  simp only[nm_mod,nn_mod,nm_inv,nn_inv,nm_d,nn_d,nm_1,nn_1,nm_root,nn_quo,db_lowf hb,nn_i,nn_absm,nn_2,nn_mN,nn_quoV,rh_x9 a f o c hb hf,rh_x28 a f o c hb hf]
theorem rh_x32 (a:Array Value) (f:Nat→Int) (o c:Nat) (hb:∀ j,0≤f j∧f j<256) (hf:∀ k,k<32→a[o+k]? =some (.int .u8 (f k))):nn (nuC (rh_v32 a f o c))=rh_u32 a f o c:=by
  exact(nn_nuC _ (mod_bd _)).trans (rh_w32 a f o c hb hf)
def rh_v33 (a:Array Value) (f:Nat→Int) (o c:Nat):Int:=nn (nuC 2)*nn (nuC (rh_v32 a f o c))%pr
def rh_u33 (a:Array Value) (f:Nat→Int) (o c:Nat):Int:=2*(rh_u32 a f o c)%pr
theorem rh_w33 (a:Array Value) (f:Nat→Int) (o c:Nat) (hb:∀ j,0≤f j∧f j<256) (hf:∀ k,k<32→a[o+k]? =some (.int .u8 (f k))):rh_v33 a f o c=rh_u33 a f o c:=by
  unfold rh_v33 rh_u33
  simp only[nm_mod,nn_mod,nm_inv,nn_inv,nm_d,nn_d,nm_1,nn_1,nm_root,nn_quo,db_lowf hb,nn_i,nn_absm,nn_2,nn_mN,nn_quoV,rh_x32 a f o c hb hf]
theorem rh_x33 (a:Array Value) (f:Nat→Int) (o c:Nat) (hb:∀ j,0≤f j∧f j<256) (hf:∀ k,k<32→a[o+k]? =some (.int .u8 (f k))):nn (nuC (rh_v33 a f o c))=rh_u33 a f o c:=by
  exact(nn_nuC _ (mod_bd _)).trans (rh_w33 a f o c hb hf)
def rh_v34 (a:Array Value) (f:Nat→Int) (o c:Nat):Int:=nn (nuC (rh_v31 a f o c))*nn (nuC mNum)%pr
def rh_u34 (a:Array Value) (f:Nat→Int) (o c:Nat):Int:=(rh_u31 a f o c)*mNum%pr
theorem rh_w34 (a:Array Value) (f:Nat→Int) (o c:Nat) (hb:∀ j,0≤f j∧f j<256) (hf:∀ k,k<32→a[o+k]? =some (.int .u8 (f k))):rh_v34 a f o c=rh_u34 a f o c:=by
  unfold rh_v34 rh_u34
  simp only[nm_mod,nn_mod,nm_inv,nn_inv,nm_d,nn_d,nm_1,nn_1,nm_root,nn_quo,db_lowf hb,nn_i,nn_absm,nn_2,nn_mN,nn_quoV,rh_x31 a f o c hb hf]
theorem rh_x34 (a:Array Value) (f:Nat→Int) (o c:Nat) (hb:∀ j,0≤f j∧f j<256) (hf:∀ k,k<32→a[o+k]? =some (.int .u8 (f k))):nn (nuC (rh_v34 a f o c))=rh_u34 a f o c:=by
  exact(nn_nuC _ (mod_bd _)).trans (rh_w34 a f o c hb hf)
def rh_v35 (a:Array Value) (f:Nat→Int) (o c:Nat):Int:=nn (nuC (rh_v28 a f o c))*nn (nuC (rh_v28 a f o c))%pr
def rh_u35 (a:Array Value) (f:Nat→Int) (o c:Nat):Int:=(rh_u28 a f o c)*(rh_u28 a f o c)%pr
theorem rh_w35 (a:Array Value) (f:Nat→Int) (o c:Nat) (hb:∀ j,0≤f j∧f j<256) (hf:∀ k,k<32→a[o+k]? =some (.int .u8 (f k))):rh_v35 a f o c=rh_u35 a f o c:=by
  unfold rh_v35 rh_u35
  simp only[nm_mod,nn_mod,nm_inv,nn_inv,nm_d,nn_d,nm_1,nn_1,nm_root,nn_quo,db_lowf hb,nn_i,nn_absm,nn_2,nn_mN,nn_quoV,rh_x28 a f o c hb hf]
theorem rh_x35 (a:Array Value) (f:Nat→Int) (o c:Nat) (hb:∀ j,0≤f j∧f j<256) (hf:∀ k,k<32→a[o+k]? =some (.int .u8 (f k))):nn (nuC (rh_v35 a f o c))=rh_u35 a f o c:=by
  exact(nn_nuC _ (mod_bd _)).trans (rh_w35 a f o c hb hf)
def rh_v36 (a:Array Value) (f:Nat→Int) (o c:Nat):Int:=(nn (nuC 1) - nn (nuC (rh_v35 a f o c)))%pr
def rh_u36 (a:Array Value) (f:Nat→Int) (o c:Nat):Int:=(1 - (rh_u35 a f o c))%pr
theorem rh_w36 (a:Array Value) (f:Nat→Int) (o c:Nat) (hb:∀ j,0≤f j∧f j<256) (hf:∀ k,k<32→a[o+k]? =some (.int .u8 (f k))):rh_v36 a f o c=rh_u36 a f o c:=by
  unfold rh_v36 rh_u36
  simp only[nm_mod,nn_mod,nm_inv,nn_inv,nm_d,nn_d,nm_1,nn_1,nm_root,nn_quo,db_lowf hb,nn_i,nn_absm,nn_2,nn_mN,nn_quoV,rh_x35 a f o c hb hf]
theorem rh_x36 (a:Array Value) (f:Nat→Int) (o c:Nat) (hb:∀ j,0≤f j∧f j<256) (hf:∀ k,k<32→a[o+k]? =some (.int .u8 (f k))):nn (nuC (rh_v36 a f o c))=rh_u36 a f o c:=by
  exact(nn_nuC _ (mod_bd _)).trans (rh_w36 a f o c hb hf)
def rh_v37 (a:Array Value) (f:Nat→Int) (o c:Nat):Int:=(nn (nuC 1)+nn (nuC (rh_v35 a f o c)))%pr
def rh_u37 (a:Array Value) (f:Nat→Int) (o c:Nat):Int:=(1+(rh_u35 a f o c))%pr
theorem rh_w37 (a:Array Value) (f:Nat→Int) (o c:Nat) (hb:∀ j,0≤f j∧f j<256) (hf:∀ k,k<32→a[o+k]? =some (.int .u8 (f k))):rh_v37 a f o c=rh_u37 a f o c:=by
  unfold rh_v37 rh_u37
  simp only[nm_mod,nn_mod,nm_inv,nn_inv,nm_d,nn_d,nm_1,nn_1,nm_root,nn_quo,db_lowf hb,nn_i,nn_absm,nn_2,nn_mN,nn_quoV,rh_x35 a f o c hb hf]
theorem rh_x37 (a:Array Value) (f:Nat→Int) (o c:Nat) (hb:∀ j,0≤f j∧f j<256) (hf:∀ k,k<32→a[o+k]? =some (.int .u8 (f k))):nn (nuC (rh_v37 a f o c))=rh_u37 a f o c:=by
  exact(nn_nuC _ (mod_bd _)).trans (rh_w37 a f o c hb hf)
def rh_v38 (a:Array Value) (f:Nat→Int) (o c:Nat):Int:=nn (nuC (rh_v33 a f o c))*nn (nuC (rh_v37 a f o c))%pr
def rh_u38 (a:Array Value) (f:Nat→Int) (o c:Nat):Int:=(rh_u33 a f o c)*(rh_u37 a f o c)%pr
theorem rh_w38 (a:Array Value) (f:Nat→Int) (o c:Nat) (hb:∀ j,0≤f j∧f j<256) (hf:∀ k,k<32→a[o+k]? =some (.int .u8 (f k))):rh_v38 a f o c=rh_u38 a f o c:=by
  unfold rh_v38 rh_u38
  simp only[nm_mod,nn_mod,nm_inv,nn_inv,nm_d,nn_d,nm_1,nn_1,nm_root,nn_quo,db_lowf hb,nn_i,nn_absm,nn_2,nn_mN,nn_quoV,rh_x33 a f o c hb hf,rh_x37 a f o c hb hf]
theorem rh_x38 (a:Array Value) (f:Nat→Int) (o c:Nat) (hb:∀ j,0≤f j∧f j<256) (hf:∀ k,k<32→a[o+k]? =some (.int .u8 (f k))):nn (nuC (rh_v38 a f o c))=rh_u38 a f o c:=by
  exact(nn_nuC _ (mod_bd _)).trans (rh_w38 a f o c hb hf)
def rh_v39 (a:Array Value) (f:Nat→Int) (o c:Nat):Int:=nn (nuC (rh_v36 a f o c))*nn (nuC (rh_v34 a f o c))%pr
def rh_u39 (a:Array Value) (f:Nat→Int) (o c:Nat):Int:=(rh_u36 a f o c)*(rh_u34 a f o c)%pr
theorem rh_w39 (a:Array Value) (f:Nat→Int) (o c:Nat) (hb:∀ j,0≤f j∧f j<256) (hf:∀ k,k<32→a[o+k]? =some (.int .u8 (f k))):rh_v39 a f o c=rh_u39 a f o c:=by
  unfold rh_v39 rh_u39
  simp only[nm_mod,nn_mod,nm_inv,nn_inv,nm_d,nn_d,nm_1,nn_1,nm_root,nn_quo,db_lowf hb,nn_i,nn_absm,nn_2,nn_mN,nn_quoV,rh_x34 a f o c hb hf,rh_x36 a f o c hb hf]
theorem rh_x39 (a:Array Value) (f:Nat→Int) (o c:Nat) (hb:∀ j,0≤f j∧f j<256) (hf:∀ k,k<32→a[o+k]? =some (.int .u8 (f k))):nn (nuC (rh_v39 a f o c))=rh_u39 a f o c:=by
  exact(nn_nuC _ (mod_bd _)).trans (rh_w39 a f o c hb hf)
def rh_v40 (a:Array Value) (f:Nat→Int) (o c:Nat):Int:=nn (nuC (rh_v34 a f o c))*nn (nuC (rh_v37 a f o c))%pr
def rh_u40 (a:Array Value) (f:Nat→Int) (o c:Nat):Int:=(rh_u34 a f o c)*(rh_u37 a f o c)%pr
theorem rh_w40 (a:Array Value) (f:Nat→Int) (o c:Nat) (hb:∀ j,0≤f j∧f j<256) (hf:∀ k,k<32→a[o+k]? =some (.int .u8 (f k))):rh_v40 a f o c=rh_u40 a f o c:=by
  unfold rh_v40 rh_u40
  simp only[nm_mod,nn_mod,nm_inv,nn_inv,nm_d,nn_d,nm_1,nn_1,nm_root,nn_quo,db_lowf hb,nn_i,nn_absm,nn_2,nn_mN,nn_quoV,rh_x34 a f o c hb hf,rh_x37 a f o c hb hf]
theorem rh_x40 (a:Array Value) (f:Nat→Int) (o c:Nat) (hb:∀ j,0≤f j∧f j<256) (hf:∀ k,k<32→a[o+k]? =some (.int .u8 (f k))):nn (nuC (rh_v40 a f o c))=rh_u40 a f o c:=by
  exact(nn_nuC _ (mod_bd _)).trans (rh_w40 a f o c hb hf)
def rh_h (i:Nat):Hn:=if i=10 then⟨6,[],[],[],[]⟩ else if i=11 then⟨10,[],[],[],[]⟩ else if i=12 then⟨11,[],[],[],[]⟩ else if i=19 then⟨12,[],[],[],[]⟩ else if i=20 then⟨6,[],[],[],[]⟩ else if i=21 then⟨4,[],[],[],[]⟩ else if i=22 then⟨6,[],[],[],[]⟩ else if i=23 then⟨6,[],[],[],[]⟩ else if i=24 then⟨10,[],[],[],[]⟩ else⟨0,[],[],[],[]⟩
set_option maxRecDepth 100000 in
theorem rh_0 (a:Array Value) (f:Nat→Int) (o c:Nat):evG (yty.enf tab15 1) rh_h Try.f86 [(a,33)] [.slice (some ⟨0,o,none⟩) 32 c] [none,some (.int .u8 (f 0)),none,none,some (.int .u8 (f 1)),none,none,some (.int .u8 (f 2)),none,none,some (.int .u8 (f 3)),none,none,some (.int .u8 (f 4)),none,none,some (.int .u8 (f 5)),none,none,some (.int .u8 (f 6)),none,none,some (.int .u8 (f 7)),none,none,some (.int .u8 (f 8)),none,none,some (.int .u8 (f 9)),none,none,some (.int .u8 (f 10)),none,none,some (.int .u8 (f 11)),none,none,some (.int .u8 (f 12)),none,none,some (.int .u8 (f 13)),none,none,some (.int .u8 (f 14)),none,none,some (.int .u8 (f 15)),none,none,some (.int .u8 (f 16)),none,none,some (.int .u8 (f 17)),none,none,some (.int .u8 (f 18)),none,none,some (.int .u8 (f 19)),none,none,some (.int .u8 (f 20)),none,none,some (.int .u8 (f 21)),none,none,some (.int .u8 (f 22)),none,none,some (.int .u8 (f 23)),none,none,some (.int .u8 (f 24)),none,none,some (.int .u8 (f 25)),none,none,some (.int .u8 (f 26)),none,none,some (.int .u8 (f 27)),none,none,some (.int .u8 (f 28)),none,none,some (.int .u8 (f 29)),none,none,some (.int .u8 (f 30)),none,none,some (.int .u8 (f 31)),none,none,none,none,none,some (.bool true)]=some (.agg (rpC (⟨(rh_v23 a f o c),(rh_v24 a f o c),(rh_v25 a f o c)⟩:P3)),((((((((((((((((((((((((((((((((((((((((((((((((((((((((((((((((((((((((((((((((((((((((((((((((((((((((((((((((((((((((((((((((((((((((((((((((((((((((((((((((((((((((((((((((((((((((((((((((((((((((((((((((((((((((((((((((((((((((((((((((((((((((((((((((((((((((((((((((((((((((((((((((((((((((((((((((((((((((((((((((((((((((((((((((((((((((((((((((((((((((((((((((((((((((((((((((((((((((((((((((((((((((((((((((((((((((((((((((((((((((((((((((((((((((((((((((((((((((((((((((((((((((((((True∧True)∧True)∧True)∧True)∧True)∧True)∧((0:Int)≤0∧(0:Int)<((32:Nat):Int)))∧((a[(o+0)]? =some (.int .u8 (f 0)))∧(f 0)=(f 0)))∧((0:Int)≤0∧(0:Int)<((32:Nat):Int)))∧True)∧True)∧True)∧True)∧True)∧True)∧True)∧True)∧True)∧((0:Int)≤1∧(1:Int)<((32:Nat):Int)))∧((a[(o+1)]? =some (.int .u8 (f 1)))∧(f 1)=(f 1)))∧((0:Int)≤1∧(1:Int)<((32:Nat):Int)))∧True)∧True)∧True)∧True)∧True)∧True)∧True)∧True)∧True)∧((0:Int)≤2∧(2:Int)<((32:Nat):Int)))∧((a[(o+2)]? =some (.int .u8 (f 2)))∧(f 2)=(f 2)))∧((0:Int)≤2∧(2:Int)<((32:Nat):Int)))∧True)∧True)∧True)∧True)∧True)∧True)∧True)∧True)∧True)∧((0:Int)≤3∧(3:Int)<((32:Nat):Int)))∧((a[(o+3)]? =some (.int .u8 (f 3)))∧(f 3)=(f 3)))∧((0:Int)≤3∧(3:Int)<((32:Nat):Int)))∧True)∧True)∧True)∧True)∧True)∧True)∧True)∧True)∧True)∧((0:Int)≤4∧(4:Int)<((32:Nat):Int)))∧((a[(o+4)]? =some (.int .u8 (f 4)))∧(f 4)=(f 4)))∧((0:Int)≤4∧(4:Int)<((32:Nat):Int)))∧True)∧True)∧True)∧True)∧True)∧True)∧True)∧True)∧True)∧((0:Int)≤5∧(5:Int)<((32:Nat):Int)))∧((a[(o+5)]? =some (.int .u8 (f 5)))∧(f 5)=(f 5)))∧((0:Int)≤5∧(5:Int)<((32:Nat):Int)))∧True)∧True)∧True)∧True)∧True)∧True)∧True)∧True)∧True)∧((0:Int)≤6∧(6:Int)<((32:Nat):Int)))∧((a[(o+6)]? =some (.int .u8 (f 6)))∧(f 6)=(f 6)))∧((0:Int)≤6∧(6:Int)<((32:Nat):Int)))∧True)∧True)∧True)∧True)∧True)∧True)∧True)∧True)∧True)∧((0:Int)≤7∧(7:Int)<((32:Nat):Int)))∧((a[(o+7)]? =some (.int .u8 (f 7)))∧(f 7)=(f 7)))∧((0:Int)≤7∧(7:Int)<((32:Nat):Int)))∧True)∧True)∧True)∧True)∧True)∧True)∧True)∧True)∧True)∧((0:Int)≤8∧(8:Int)<((32:Nat):Int)))∧((a[(o+8)]? =some (.int .u8 (f 8)))∧(f 8)=(f 8)))∧((0:Int)≤8∧(8:Int)<((32:Nat):Int)))∧True)∧True)∧True)∧True)∧True)∧True)∧True)∧True)∧True)∧((0:Int)≤9∧(9:Int)<((32:Nat):Int)))∧((a[(o+9)]? =some (.int .u8 (f 9)))∧(f 9)=(f 9)))∧((0:Int)≤9∧(9:Int)<((32:Nat):Int)))∧True)∧True)∧True)∧True)∧True)∧True)∧True)∧True)∧True)∧((0:Int)≤10∧(10:Int)<((32:Nat):Int)))∧((a[(o+10)]? =some (.int .u8 (f 10)))∧(f 10)=(f 10)))∧((0:Int)≤10∧(10:Int)<((32:Nat):Int)))∧True)∧True)∧True)∧True)∧True)∧True)∧True)∧True)∧True)∧((0:Int)≤11∧(11:Int)<((32:Nat):Int)))∧((a[(o+11)]? =some (.int .u8 (f 11)))∧(f 11)=(f 11)))∧((0:Int)≤11∧(11:Int)<((32:Nat):Int)))∧True)∧True)∧True)∧True)∧True)∧True)∧True)∧True)∧True)∧((0:Int)≤12∧(12:Int)<((32:Nat):Int)))∧((a[(o+12)]? =some (.int .u8 (f 12)))∧(f 12)=(f 12)))∧((0:Int)≤12∧(12:Int)<((32:Nat):Int)))∧True)∧True)∧True)∧True)∧True)∧True)∧True)∧True)∧True)∧((0:Int)≤13∧(13:Int)<((32:Nat):Int)))∧((a[(o+13)]? =some (.int .u8 (f 13)))∧(f 13)=(f 13)))∧((0:Int)≤13∧(13:Int)<((32:Nat):Int)))∧True)∧True)∧True)∧True)∧True)∧True)∧True)∧True)∧True)∧((0:Int)≤14∧(14:Int)<((32:Nat):Int)))∧((a[(o+14)]? =some (.int .u8 (f 14)))∧(f 14)=(f 14)))∧((0:Int)≤14∧(14:Int)<((32:Nat):Int)))∧True)∧True)∧True)∧True)∧True)∧True)∧True)∧True)∧True)∧((0:Int)≤15∧(15:Int)<((32:Nat):Int)))∧((a[(o+15)]? =some (.int .u8 (f 15)))∧(f 15)=(f 15)))∧((0:Int)≤15∧(15:Int)<((32:Nat):Int)))∧True)∧True)∧True)∧True)∧True)∧True)∧True)∧True)∧True)∧((0:Int)≤16∧(16:Int)<((32:Nat):Int)))∧((a[(o+16)]? =some (.int .u8 (f 16)))∧(f 16)=(f 16)))∧((0:Int)≤16∧(16:Int)<((32:Nat):Int)))∧True)∧True)∧True)∧True)∧True)∧True)∧True)∧True)∧True)∧((0:Int)≤17∧(17:Int)<((32:Nat):Int)))∧((a[(o+17)]? =some (.int .u8 (f 17)))∧(f 17)=(f 17)))∧((0:Int)≤17∧(17:Int)<((32:Nat):Int)))∧True)∧True)∧True)∧True)∧True)∧True)∧True)∧True)∧True)∧((0:Int)≤18∧(18:Int)<((32:Nat):Int)))∧((a[(o+18)]? =some (.int .u8 (f 18)))∧(f 18)=(f 18)))∧((0:Int)≤18∧(18:Int)<((32:Nat):Int)))∧True)∧True)∧True)∧True)∧True)∧True)∧True)∧True)∧True)∧((0:Int)≤19∧(19:Int)<((32:Nat):Int)))∧((a[(o+19)]? =some (.int .u8 (f 19)))∧(f 19)=(f 19)))∧((0:Int)≤19∧(19:Int)<((32:Nat):Int)))∧True)∧True)∧True)∧True)∧True)∧True)∧True)∧True)∧True)∧((0:Int)≤20∧(20:Int)<((32:Nat):Int)))∧((a[(o+20)]? =some (.int .u8 (f 20)))∧(f 20)=(f 20)))∧((0:Int)≤20∧(20:Int)<((32:Nat):Int)))∧True)∧True)∧True)∧True)∧True)∧True)∧True)∧True)∧True)∧((0:Int)≤21∧(21:Int)<((32:Nat):Int)))∧((a[(o+21)]? =some (.int .u8 (f 21)))∧(f 21)=(f 21)))∧((0:Int)≤21∧(21:Int)<((32:Nat):Int)))∧True)∧True)∧True)∧True)∧True)∧True)∧True)∧True)∧True)∧((0:Int)≤22∧(22:Int)<((32:Nat):Int)))∧((a[(o+22)]? =some (.int .u8 (f 22)))∧(f 22)=(f 22)))∧((0:Int)≤22∧(22:Int)<((32:Nat):Int)))∧True)∧True)∧True)∧True)∧True)∧True)∧True)∧True)∧True)∧((0:Int)≤23∧(23:Int)<((32:Nat):Int)))∧((a[(o+23)]? =some (.int .u8 (f 23)))∧(f 23)=(f 23)))∧((0:Int)≤23∧(23:Int)<((32:Nat):Int)))∧True)∧True)∧True)∧True)∧True)∧True)∧True)∧True)∧True)∧((0:Int)≤24∧(24:Int)<((32:Nat):Int)))∧((a[(o+24)]? =some (.int .u8 (f 24)))∧(f 24)=(f 24)))∧((0:Int)≤24∧(24:Int)<((32:Nat):Int)))∧True)∧True)∧True)∧True)∧True)∧True)∧True)∧True)∧True)∧((0:Int)≤25∧(25:Int)<((32:Nat):Int)))∧((a[(o+25)]? =some (.int .u8 (f 25)))∧(f 25)=(f 25)))∧((0:Int)≤25∧(25:Int)<((32:Nat):Int)))∧True)∧True)∧True)∧True)∧True)∧True)∧True)∧True)∧True)∧((0:Int)≤26∧(26:Int)<((32:Nat):Int)))∧((a[(o+26)]? =some (.int .u8 (f 26)))∧(f 26)=(f 26)))∧((0:Int)≤26∧(26:Int)<((32:Nat):Int)))∧True)∧True)∧True)∧True)∧True)∧True)∧True)∧True)∧True)∧((0:Int)≤27∧(27:Int)<((32:Nat):Int)))∧((a[(o+27)]? =some (.int .u8 (f 27)))∧(f 27)=(f 27)))∧((0:Int)≤27∧(27:Int)<((32:Nat):Int)))∧True)∧True)∧True)∧True)∧True)∧True)∧True)∧True)∧True)∧((0:Int)≤28∧(28:Int)<((32:Nat):Int)))∧((a[(o+28)]? =some (.int .u8 (f 28)))∧(f 28)=(f 28)))∧((0:Int)≤28∧(28:Int)<((32:Nat):Int)))∧True)∧True)∧True)∧True)∧True)∧True)∧True)∧True)∧True)∧((0:Int)≤29∧(29:Int)<((32:Nat):Int)))∧((a[(o+29)]? =some (.int .u8 (f 29)))∧(f 29)=(f 29)))∧((0:Int)≤29∧(29:Int)<((32:Nat):Int)))∧True)∧True)∧True)∧True)∧True)∧True)∧True)∧True)∧True)∧((0:Int)≤30∧(30:Int)<((32:Nat):Int)))∧((a[(o+30)]? =some (.int .u8 (f 30)))∧(f 30)=(f 30)))∧((0:Int)≤30∧(30:Int)<((32:Nat):Int)))∧True)∧True)∧True)∧True)∧True)∧True)∧True)∧True)∧True)∧((0:Int)≤31∧(31:Int)<((32:Nat):Int)))∧((a[(o+31)]? =some (.int .u8 (f 31)))∧(f 31)=(f 31)))∧((0:Int)≤31∧(31:Int)<((32:Nat):Int)))∧True)∧True)∧True)∧True)∧True)∧True)∧((0:Int)≤31∧(31:Int)<((32:Nat):Int)))∧True)∧((128:Int)≠0))∧((0:Int)≤31∧(31:Int)<((32:Nat):Int)))∧True)∧True)∧byD.is (lowV f))∧True)∧True)∧True)∧((nuC (db (lowV f)%pr)).all (fun v=>v.oneCell')=true))∧True)∧(IntKind.u64=IntKind.u64∧w64 1))∧((nuC 1).all (fun v=>v.oneCell')=true))∧True)∧((nuC dN).all (fun v=>v.oneCell')=true))∧True)∧True)∧True)∧(nuD.is (nuC (db (lowV f)%pr))∧nuD.is (nuC (db (lowV f)%pr))))∧(nuD.is (nuC iNum)∧nuD.is (nuC (rh_v0 a f o c))))∧((nuC (rh_v1 a f o c)).all (fun v=>v.oneCell')=true))∧True)∧True)∧(nuD.is (nuC (rh_v1 a f o c))∧nuD.is (nuC 1)))∧True)∧True)∧True)∧(nuD.is (nuC dN)∧nuD.is (nuC dN)))∧(nuD.is (nuC 1)∧nuD.is (nuC (rh_v3 a f o c))))∧(nuD.is (nuC (rh_v2 a f o c))∧nuD.is (nuC (rh_v4 a f o c))))∧((nuC (rh_v5 a f o c)).all (fun v=>v.oneCell')=true))∧True)∧nuD.is (nuC 1))∧True)∧True)∧(nuD.is (nuC (rh_v1 a f o c))∧nuD.is (nuC dN)))∧(nuD.is (nuC (-(nn (nuC 1))%pr))∧nuD.is (nuC (rh_v6 a f o c))))∧True)∧True)∧(nuD.is (nuC (rh_v1 a f o c))∧nuD.is (nuC dN)))∧(nuD.is (nuC (rh_v7 a f o c))∧nuD.is (nuC (rh_v8 a f o c))))∧((nuC (rh_v9 a f o c)).all (fun v=>v.oneCell')=true))∧True)∧True)∧(nuD.is (nuC (rh_v5 a f o c))∧nuD.is (nuC (rh_v9 a f o c))))∧True)∧True)∧(True∧(quoB (nn (nuC (rh_v5 a f o c))) (nn (nuC (rh_v9 a f o c))))=true))∧((nuC (rh_v10 a f o c)).all (fun v=>v.oneCell')=true))∧True)∧True)∧nuD.is (nuC 1))∧((nuC (-(nn (nuC 1))%pr)).all (fun v=>v.oneCell')=true))∧True)∧True)∧True)∧True)∧(nuD.is (nuC dN)∧nuD.is (nuC 1)))∧((nuC (rh_v11 a f o c)).all (fun v=>v.oneCell')=true))∧True)∧True)∧True)∧(nuD.is (nuC (rh_v1 a f o c))∧nuD.is (nuC 1)))∧(nuD.is (nuC (-(nn (nuC 1))%pr))∧nuD.is (nuC (rh_v12 a f o c))))∧True)∧True)∧(nuD.is (nuC (rh_v11 a f o c))∧nuD.is (nuC (rh_v11 a f o c))))∧(nuD.is (nuC (rh_v13 a f o c))∧nuD.is (nuC (rh_v14 a f o c))))∧True)∧(nuD.is (nuC (rh_v15 a f o c))∧nuD.is (nuC (rh_v9 a f o c))))∧((nuC (rh_v16 a f o c)).all (fun v=>v.oneCell')=true))∧(IntKind.u64=IntKind.u64∧w64 2))∧True)∧True)∧(nuD.is (nuC (rh_v10 a f o c))∧nuD.is (nuC (rh_v9 a f o c))))∧(nuD.is (nuC 2)∧nuD.is (nuC (rh_v17 a f o c))))∧((nuC (rh_v18 a f o c)).all (fun v=>v.oneCell')=true))∧True)∧True)∧(nuD.is (nuC (rh_v16 a f o c))∧nuD.is (nuC mNum)))∧((nuC (rh_v19 a f o c)).all (fun v=>v.oneCell')=true))∧True)∧True)∧True)∧(nuD.is (nuC (rh_v10 a f o c))∧nuD.is (nuC (rh_v10 a f o c))))∧(nuD.is (nuC 1)∧nuD.is (nuC (rh_v20 a f o c))))∧((nuC (rh_v21 a f o c)).all (fun v=>v.oneCell')=true))∧True)∧True)∧True)∧(nuD.is (nuC (rh_v10 a f o c))∧nuD.is (nuC (rh_v10 a f o c))))∧(nuD.is (nuC 1)∧nuD.is (nuC (rh_v20 a f o c))))∧((nuC (rh_v22 a f o c)).all (fun v=>v.oneCell')=true))∧True)∧True)∧(nuD.is (nuC (rh_v18 a f o c))∧nuD.is (nuC (rh_v22 a f o c))))∧True)∧True)∧(nuD.is (nuC (rh_v21 a f o c))∧nuD.is (nuC (rh_v19 a f o c))))∧True)∧True)∧(nuD.is (nuC (rh_v19 a f o c))∧nuD.is (nuC (rh_v22 a f o c))))∧True)∧((rpC (⟨(rh_v23 a f o c),(rh_v24 a f o c),(rh_v25 a f o c)⟩:P3)).all (fun v=>v.oneCell')=true))):=by kernel_rfl
set_option maxRecDepth 100000 in
theorem rh_1 (a:Array Value) (f:Nat→Int) (o c:Nat):evG (yty.enf tab15 1) rh_h Try.f86 [(a,33)] [.slice (some ⟨0,o,none⟩) 32 c] [none,some (.int .u8 (f 0)),none,none,some (.int .u8 (f 1)),none,none,some (.int .u8 (f 2)),none,none,some (.int .u8 (f 3)),none,none,some (.int .u8 (f 4)),none,none,some (.int .u8 (f 5)),none,none,some (.int .u8 (f 6)),none,none,some (.int .u8 (f 7)),none,none,some (.int .u8 (f 8)),none,none,some (.int .u8 (f 9)),none,none,some (.int .u8 (f 10)),none,none,some (.int .u8 (f 11)),none,none,some (.int .u8 (f 12)),none,none,some (.int .u8 (f 13)),none,none,some (.int .u8 (f 14)),none,none,some (.int .u8 (f 15)),none,none,some (.int .u8 (f 16)),none,none,some (.int .u8 (f 17)),none,none,some (.int .u8 (f 18)),none,none,some (.int .u8 (f 19)),none,none,some (.int .u8 (f 20)),none,none,some (.int .u8 (f 21)),none,none,some (.int .u8 (f 22)),none,none,some (.int .u8 (f 23)),none,none,some (.int .u8 (f 24)),none,none,some (.int .u8 (f 25)),none,none,some (.int .u8 (f 26)),none,none,some (.int .u8 (f 27)),none,none,some (.int .u8 (f 28)),none,none,some (.int .u8 (f 29)),none,none,some (.int .u8 (f 30)),none,none,some (.int .u8 (f 31)),none,none,none,none,none,some (.bool false)]=some (.agg (rpC (⟨(rh_v38 a f o c),(rh_v39 a f o c),(rh_v40 a f o c)⟩:P3)),((((((((((((((((((((((((((((((((((((((((((((((((((((((((((((((((((((((((((((((((((((((((((((((((((((((((((((((((((((((((((((((((((((((((((((((((((((((((((((((((((((((((((((((((((((((((((((((((((((((((((((((((((((((((((((((((((((((((((((((((((((((((((((((((((((((((((((((((((((((((((((((((((((((((((((((((((((((((((((((((((((((((((((((((((((((((((((((((((((((((((((((((((((((((((((((((((((((((((((((((((((((((((((((((((((((((((((((((((((((((((((((((((((((((((((((((((((((((((((((((((((((((((((((((((((True∧True)∧True)∧True)∧True)∧True)∧True)∧((0:Int)≤0∧(0:Int)<((32:Nat):Int)))∧((a[(o+0)]? =some (.int .u8 (f 0)))∧(f 0)=(f 0)))∧((0:Int)≤0∧(0:Int)<((32:Nat):Int)))∧True)∧True)∧True)∧True)∧True)∧True)∧True)∧True)∧True)∧((0:Int)≤1∧(1:Int)<((32:Nat):Int)))∧((a[(o+1)]? =some (.int .u8 (f 1)))∧(f 1)=(f 1)))∧((0:Int)≤1∧(1:Int)<((32:Nat):Int)))∧True)∧True)∧True)∧True)∧True)∧True)∧True)∧True)∧True)∧((0:Int)≤2∧(2:Int)<((32:Nat):Int)))∧((a[(o+2)]? =some (.int .u8 (f 2)))∧(f 2)=(f 2)))∧((0:Int)≤2∧(2:Int)<((32:Nat):Int)))∧True)∧True)∧True)∧True)∧True)∧True)∧True)∧True)∧True)∧((0:Int)≤3∧(3:Int)<((32:Nat):Int)))∧((a[(o+3)]? =some (.int .u8 (f 3)))∧(f 3)=(f 3)))∧((0:Int)≤3∧(3:Int)<((32:Nat):Int)))∧True)∧True)∧True)∧True)∧True)∧True)∧True)∧True)∧True)∧((0:Int)≤4∧(4:Int)<((32:Nat):Int)))∧((a[(o+4)]? =some (.int .u8 (f 4)))∧(f 4)=(f 4)))∧((0:Int)≤4∧(4:Int)<((32:Nat):Int)))∧True)∧True)∧True)∧True)∧True)∧True)∧True)∧True)∧True)∧((0:Int)≤5∧(5:Int)<((32:Nat):Int)))∧((a[(o+5)]? =some (.int .u8 (f 5)))∧(f 5)=(f 5)))∧((0:Int)≤5∧(5:Int)<((32:Nat):Int)))∧True)∧True)∧True)∧True)∧True)∧True)∧True)∧True)∧True)∧((0:Int)≤6∧(6:Int)<((32:Nat):Int)))∧((a[(o+6)]? =some (.int .u8 (f 6)))∧(f 6)=(f 6)))∧((0:Int)≤6∧(6:Int)<((32:Nat):Int)))∧True)∧True)∧True)∧True)∧True)∧True)∧True)∧True)∧True)∧((0:Int)≤7∧(7:Int)<((32:Nat):Int)))∧((a[(o+7)]? =some (.int .u8 (f 7)))∧(f 7)=(f 7)))∧((0:Int)≤7∧(7:Int)<((32:Nat):Int)))∧True)∧True)∧True)∧True)∧True)∧True)∧True)∧True)∧True)∧((0:Int)≤8∧(8:Int)<((32:Nat):Int)))∧((a[(o+8)]? =some (.int .u8 (f 8)))∧(f 8)=(f 8)))∧((0:Int)≤8∧(8:Int)<((32:Nat):Int)))∧True)∧True)∧True)∧True)∧True)∧True)∧True)∧True)∧True)∧((0:Int)≤9∧(9:Int)<((32:Nat):Int)))∧((a[(o+9)]? =some (.int .u8 (f 9)))∧(f 9)=(f 9)))∧((0:Int)≤9∧(9:Int)<((32:Nat):Int)))∧True)∧True)∧True)∧True)∧True)∧True)∧True)∧True)∧True)∧((0:Int)≤10∧(10:Int)<((32:Nat):Int)))∧((a[(o+10)]? =some (.int .u8 (f 10)))∧(f 10)=(f 10)))∧((0:Int)≤10∧(10:Int)<((32:Nat):Int)))∧True)∧True)∧True)∧True)∧True)∧True)∧True)∧True)∧True)∧((0:Int)≤11∧(11:Int)<((32:Nat):Int)))∧((a[(o+11)]? =some (.int .u8 (f 11)))∧(f 11)=(f 11)))∧((0:Int)≤11∧(11:Int)<((32:Nat):Int)))∧True)∧True)∧True)∧True)∧True)∧True)∧True)∧True)∧True)∧((0:Int)≤12∧(12:Int)<((32:Nat):Int)))∧((a[(o+12)]? =some (.int .u8 (f 12)))∧(f 12)=(f 12)))∧((0:Int)≤12∧(12:Int)<((32:Nat):Int)))∧True)∧True)∧True)∧True)∧True)∧True)∧True)∧True)∧True)∧((0:Int)≤13∧(13:Int)<((32:Nat):Int)))∧((a[(o+13)]? =some (.int .u8 (f 13)))∧(f 13)=(f 13)))∧((0:Int)≤13∧(13:Int)<((32:Nat):Int)))∧True)∧True)∧True)∧True)∧True)∧True)∧True)∧True)∧True)∧((0:Int)≤14∧(14:Int)<((32:Nat):Int)))∧((a[(o+14)]? =some (.int .u8 (f 14)))∧(f 14)=(f 14)))∧((0:Int)≤14∧(14:Int)<((32:Nat):Int)))∧True)∧True)∧True)∧True)∧True)∧True)∧True)∧True)∧True)∧((0:Int)≤15∧(15:Int)<((32:Nat):Int)))∧((a[(o+15)]? =some (.int .u8 (f 15)))∧(f 15)=(f 15)))∧((0:Int)≤15∧(15:Int)<((32:Nat):Int)))∧True)∧True)∧True)∧True)∧True)∧True)∧True)∧True)∧True)∧((0:Int)≤16∧(16:Int)<((32:Nat):Int)))∧((a[(o+16)]? =some (.int .u8 (f 16)))∧(f 16)=(f 16)))∧((0:Int)≤16∧(16:Int)<((32:Nat):Int)))∧True)∧True)∧True)∧True)∧True)∧True)∧True)∧True)∧True)∧((0:Int)≤17∧(17:Int)<((32:Nat):Int)))∧((a[(o+17)]? =some (.int .u8 (f 17)))∧(f 17)=(f 17)))∧((0:Int)≤17∧(17:Int)<((32:Nat):Int)))∧True)∧True)∧True)∧True)∧True)∧True)∧True)∧True)∧True)∧((0:Int)≤18∧(18:Int)<((32:Nat):Int)))∧((a[(o+18)]? =some (.int .u8 (f 18)))∧(f 18)=(f 18)))∧((0:Int)≤18∧(18:Int)<((32:Nat):Int)))∧True)∧True)∧True)∧True)∧True)∧True)∧True)∧True)∧True)∧((0:Int)≤19∧(19:Int)<((32:Nat):Int)))∧((a[(o+19)]? =some (.int .u8 (f 19)))∧(f 19)=(f 19)))∧((0:Int)≤19∧(19:Int)<((32:Nat):Int)))∧True)∧True)∧True)∧True)∧True)∧True)∧True)∧True)∧True)∧((0:Int)≤20∧(20:Int)<((32:Nat):Int)))∧((a[(o+20)]? =some (.int .u8 (f 20)))∧(f 20)=(f 20)))∧((0:Int)≤20∧(20:Int)<((32:Nat):Int)))∧True)∧True)∧True)∧True)∧True)∧True)∧True)∧True)∧True)∧((0:Int)≤21∧(21:Int)<((32:Nat):Int)))∧((a[(o+21)]? =some (.int .u8 (f 21)))∧(f 21)=(f 21)))∧((0:Int)≤21∧(21:Int)<((32:Nat):Int)))∧True)∧True)∧True)∧True)∧True)∧True)∧True)∧True)∧True)∧((0:Int)≤22∧(22:Int)<((32:Nat):Int)))∧((a[(o+22)]? =some (.int .u8 (f 22)))∧(f 22)=(f 22)))∧((0:Int)≤22∧(22:Int)<((32:Nat):Int)))∧True)∧True)∧True)∧True)∧True)∧True)∧True)∧True)∧True)∧((0:Int)≤23∧(23:Int)<((32:Nat):Int)))∧((a[(o+23)]? =some (.int .u8 (f 23)))∧(f 23)=(f 23)))∧((0:Int)≤23∧(23:Int)<((32:Nat):Int)))∧True)∧True)∧True)∧True)∧True)∧True)∧True)∧True)∧True)∧((0:Int)≤24∧(24:Int)<((32:Nat):Int)))∧((a[(o+24)]? =some (.int .u8 (f 24)))∧(f 24)=(f 24)))∧((0:Int)≤24∧(24:Int)<((32:Nat):Int)))∧True)∧True)∧True)∧True)∧True)∧True)∧True)∧True)∧True)∧((0:Int)≤25∧(25:Int)<((32:Nat):Int)))∧((a[(o+25)]? =some (.int .u8 (f 25)))∧(f 25)=(f 25)))∧((0:Int)≤25∧(25:Int)<((32:Nat):Int)))∧True)∧True)∧True)∧True)∧True)∧True)∧True)∧True)∧True)∧((0:Int)≤26∧(26:Int)<((32:Nat):Int)))∧((a[(o+26)]? =some (.int .u8 (f 26)))∧(f 26)=(f 26)))∧((0:Int)≤26∧(26:Int)<((32:Nat):Int)))∧True)∧True)∧True)∧True)∧True)∧True)∧True)∧True)∧True)∧((0:Int)≤27∧(27:Int)<((32:Nat):Int)))∧((a[(o+27)]? =some (.int .u8 (f 27)))∧(f 27)=(f 27)))∧((0:Int)≤27∧(27:Int)<((32:Nat):Int)))∧True)∧True)∧True)∧True)∧True)∧True)∧True)∧True)∧True)∧((0:Int)≤28∧(28:Int)<((32:Nat):Int)))∧((a[(o+28)]? =some (.int .u8 (f 28)))∧(f 28)=(f 28)))∧((0:Int)≤28∧(28:Int)<((32:Nat):Int)))∧True)∧True)∧True)∧True)∧True)∧True)∧True)∧True)∧True)∧((0:Int)≤29∧(29:Int)<((32:Nat):Int)))∧((a[(o+29)]? =some (.int .u8 (f 29)))∧(f 29)=(f 29)))∧((0:Int)≤29∧(29:Int)<((32:Nat):Int)))∧True)∧True)∧True)∧True)∧True)∧True)∧True)∧True)∧True)∧((0:Int)≤30∧(30:Int)<((32:Nat):Int)))∧((a[(o+30)]? =some (.int .u8 (f 30)))∧(f 30)=(f 30)))∧((0:Int)≤30∧(30:Int)<((32:Nat):Int)))∧True)∧True)∧True)∧True)∧True)∧True)∧True)∧True)∧True)∧((0:Int)≤31∧(31:Int)<((32:Nat):Int)))∧((a[(o+31)]? =some (.int .u8 (f 31)))∧(f 31)=(f 31)))∧((0:Int)≤31∧(31:Int)<((32:Nat):Int)))∧True)∧True)∧True)∧True)∧True)∧True)∧((0:Int)≤31∧(31:Int)<((32:Nat):Int)))∧True)∧((128:Int)≠0))∧((0:Int)≤31∧(31:Int)<((32:Nat):Int)))∧True)∧True)∧byD.is (lowV f))∧True)∧True)∧True)∧((nuC (db (lowV f)%pr)).all (fun v=>v.oneCell')=true))∧True)∧(IntKind.u64=IntKind.u64∧w64 1))∧((nuC 1).all (fun v=>v.oneCell')=true))∧True)∧((nuC dN).all (fun v=>v.oneCell')=true))∧True)∧True)∧True)∧(nuD.is (nuC (db (lowV f)%pr))∧nuD.is (nuC (db (lowV f)%pr))))∧(nuD.is (nuC iNum)∧nuD.is (nuC (rh_v0 a f o c))))∧((nuC (rh_v1 a f o c)).all (fun v=>v.oneCell')=true))∧True)∧True)∧(nuD.is (nuC (rh_v1 a f o c))∧nuD.is (nuC 1)))∧True)∧True)∧True)∧(nuD.is (nuC dN)∧nuD.is (nuC dN)))∧(nuD.is (nuC 1)∧nuD.is (nuC (rh_v3 a f o c))))∧(nuD.is (nuC (rh_v2 a f o c))∧nuD.is (nuC (rh_v4 a f o c))))∧((nuC (rh_v5 a f o c)).all (fun v=>v.oneCell')=true))∧True)∧nuD.is (nuC 1))∧True)∧True)∧(nuD.is (nuC (rh_v1 a f o c))∧nuD.is (nuC dN)))∧(nuD.is (nuC (-(nn (nuC 1))%pr))∧nuD.is (nuC (rh_v6 a f o c))))∧True)∧True)∧(nuD.is (nuC (rh_v1 a f o c))∧nuD.is (nuC dN)))∧(nuD.is (nuC (rh_v7 a f o c))∧nuD.is (nuC (rh_v8 a f o c))))∧((nuC (rh_v9 a f o c)).all (fun v=>v.oneCell')=true))∧True)∧True)∧(nuD.is (nuC (rh_v5 a f o c))∧nuD.is (nuC (rh_v9 a f o c))))∧True)∧True)∧(True∧(quoB (nn (nuC (rh_v5 a f o c))) (nn (nuC (rh_v9 a f o c))))=false))∧((nuC (rh_v10 a f o c)).all (fun v=>v.oneCell')=true))∧True)∧True)∧nuD.is (nuC 1))∧((nuC (-(nn (nuC 1))%pr)).all (fun v=>v.oneCell')=true))∧True)∧True)∧True)∧True)∧(nuD.is (nuC (rh_v10 a f o c))∧nuD.is (nuC (db (lowV f)%pr))))∧nuD.is (nuC (rh_v26 a f o c)))∧nuD.is (nuC (rh_v27 a f o c)))∧((nuC (rh_v28 a f o c)).all (fun v=>v.oneCell')=true))∧True)∧((nuC (rh_v1 a f o c)).all (fun v=>v.oneCell')=true))∧True)∧True)∧(nuD.is (nuC dN)∧nuD.is (nuC 1)))∧((nuC (rh_v11 a f o c)).all (fun v=>v.oneCell')=true))∧True)∧True)∧True)∧(nuD.is (nuC (rh_v1 a f o c))∧nuD.is (nuC 1)))∧(nuD.is (nuC (rh_v1 a f o c))∧nuD.is (nuC (rh_v12 a f o c))))∧True)∧True)∧(nuD.is (nuC (rh_v11 a f o c))∧nuD.is (nuC (rh_v11 a f o c))))∧(nuD.is (nuC (rh_v29 a f o c))∧nuD.is (nuC (rh_v14 a f o c))))∧True)∧(nuD.is (nuC (rh_v30 a f o c))∧nuD.is (nuC (rh_v9 a f o c))))∧((nuC (rh_v31 a f o c)).all (fun v=>v.oneCell')=true))∧(IntKind.u64=IntKind.u64∧w64 2))∧True)∧True)∧(nuD.is (nuC (rh_v28 a f o c))∧nuD.is (nuC (rh_v9 a f o c))))∧(nuD.is (nuC 2)∧nuD.is (nuC (rh_v32 a f o c))))∧((nuC (rh_v33 a f o c)).all (fun v=>v.oneCell')=true))∧True)∧True)∧(nuD.is (nuC (rh_v31 a f o c))∧nuD.is (nuC mNum)))∧((nuC (rh_v34 a f o c)).all (fun v=>v.oneCell')=true))∧True)∧True)∧True)∧(nuD.is (nuC (rh_v28 a f o c))∧nuD.is (nuC (rh_v28 a f o c))))∧(nuD.is (nuC 1)∧nuD.is (nuC (rh_v35 a f o c))))∧((nuC (rh_v36 a f o c)).all (fun v=>v.oneCell')=true))∧True)∧True)∧True)∧(nuD.is (nuC (rh_v28 a f o c))∧nuD.is (nuC (rh_v28 a f o c))))∧(nuD.is (nuC 1)∧nuD.is (nuC (rh_v35 a f o c))))∧((nuC (rh_v37 a f o c)).all (fun v=>v.oneCell')=true))∧True)∧True)∧(nuD.is (nuC (rh_v33 a f o c))∧nuD.is (nuC (rh_v37 a f o c))))∧True)∧True)∧(nuD.is (nuC (rh_v36 a f o c))∧nuD.is (nuC (rh_v34 a f o c))))∧True)∧True)∧(nuD.is (nuC (rh_v34 a f o c))∧nuD.is (nuC (rh_v37 a f o c))))∧True)∧((rpC (⟨(rh_v38 a f o c),(rh_v39 a f o c),(rh_v40 a f o c)⟩:P3)).all (fun v=>v.oneCell')=true))):=by kernel_rfl
def rh_F (a:Array Value) (f:Nat→Int) (o c:Nat):Value:=cond (quoB (nn (nuC (rh_v5 a f o c))) (nn (nuC (rh_v9 a f o c)))) (.agg (rpC (⟨(rh_v23 a f o c),(rh_v24 a f o c),(rh_v25 a f o c)⟩:P3))) (.agg (rpC (⟨(rh_v38 a f o c),(rh_v39 a f o c),(rh_v40 a f o c)⟩:P3)))
set_option maxRecDepth 100000 in
set_option maxHeartbeats 4000000 in
theorem rh_p (a:Array Value) (f:Nat→Int) (o c:Nat) (hb:∀ j,0≤f j∧f j<256) (hf:∀ k,k<32→a[o+k]? =some (.int .u8 (f k))):Reads Try.prog 86 [(a,33)] [.slice (some ⟨0,o,none⟩) 32 c] (rh_F a f o c):=by
  unfold rh_F
  cases h34:(quoB (nn (nuC (rh_v5 a f o c))) (nn (nuC (rh_v9 a f o c))))
  · skip
    exact reads_of (n:=1) mixed Try.func86 ⟨rfl,by decide⟩ _ (rh_1 a f o c) rfl ⟨⟨⟨⟨⟨⟨⟨⟨⟨⟨⟨⟨⟨⟨⟨⟨⟨⟨⟨⟨⟨⟨⟨⟨⟨⟨⟨⟨⟨⟨⟨⟨⟨⟨⟨⟨⟨⟨⟨⟨⟨⟨⟨⟨⟨⟨⟨⟨⟨⟨⟨⟨⟨⟨⟨⟨⟨⟨⟨⟨⟨⟨⟨⟨⟨⟨⟨⟨⟨⟨⟨⟨⟨⟨⟨⟨⟨⟨⟨⟨⟨⟨⟨⟨⟨⟨⟨⟨⟨⟨⟨⟨⟨⟨⟨⟨⟨⟨⟨⟨⟨⟨⟨⟨⟨⟨⟨⟨⟨⟨⟨⟨⟨⟨⟨⟨⟨⟨⟨⟨⟨⟨⟨⟨⟨⟨⟨⟨⟨⟨⟨⟨⟨⟨⟨⟨⟨⟨⟨⟨⟨⟨⟨⟨⟨⟨⟨⟨⟨⟨⟨⟨⟨⟨⟨⟨⟨⟨⟨⟨⟨⟨⟨⟨⟨⟨⟨⟨⟨⟨⟨⟨⟨⟨⟨⟨⟨⟨⟨⟨⟨⟨⟨⟨⟨⟨⟨⟨⟨⟨⟨⟨⟨⟨⟨⟨⟨⟨⟨⟨⟨⟨⟨⟨⟨⟨⟨⟨⟨⟨⟨⟨⟨⟨⟨⟨⟨⟨⟨⟨⟨⟨⟨⟨⟨⟨⟨⟨⟨⟨⟨⟨⟨⟨⟨⟨⟨⟨⟨⟨⟨⟨⟨⟨⟨⟨⟨⟨⟨⟨⟨⟨⟨⟨⟨⟨⟨⟨⟨⟨⟨⟨⟨⟨⟨⟨⟨⟨⟨⟨⟨⟨⟨⟨⟨⟨⟨⟨⟨⟨⟨⟨⟨⟨⟨⟨⟨⟨⟨⟨⟨⟨⟨⟨⟨⟨⟨⟨⟨⟨⟨⟨⟨⟨⟨⟨⟨⟨⟨⟨⟨⟨⟨⟨⟨⟨⟨⟨⟨⟨⟨⟨⟨⟨⟨⟨⟨⟨⟨⟨⟨⟨⟨⟨⟨⟨⟨⟨⟨⟨⟨⟨⟨⟨⟨⟨⟨⟨⟨⟨⟨⟨⟨⟨⟨⟨⟨⟨⟨⟨⟨⟨⟨⟨⟨⟨⟨⟨⟨⟨⟨⟨⟨⟨⟨⟨⟨⟨⟨⟨⟨⟨⟨⟨⟨⟨⟨⟨⟨⟨⟨⟨⟨⟨⟨⟨⟨⟨⟨⟨⟨⟨⟨⟨⟨⟨⟨⟨⟨⟨⟨⟨⟨⟨⟨⟨⟨⟨⟨⟨⟨⟨⟨⟨⟨⟨⟨⟨⟨⟨⟨⟨⟨⟨⟨⟨⟨⟨⟨⟨⟨⟨⟨⟨⟨⟨⟨⟨⟨⟨⟨⟨⟨⟨⟨⟨⟨⟨⟨⟨⟨⟨⟨⟨⟨⟨⟨⟨⟨⟨⟨⟨⟨⟨⟨⟨⟨⟨⟨⟨⟨⟨⟨⟨⟨⟨⟨⟨⟨⟨⟨⟨⟨⟨⟨⟨⟨⟨⟨⟨trivial,trivial⟩,trivial⟩,trivial⟩,trivial⟩,trivial⟩,trivial⟩,⟨by decide,by decide⟩⟩,⟨hf 0 (by decide),rfl⟩⟩,⟨by decide,by decide⟩⟩,trivial⟩,trivial⟩,trivial⟩,trivial⟩,trivial⟩,trivial⟩,trivial⟩,trivial⟩,trivial⟩,⟨by decide,by decide⟩⟩,⟨hf 1 (by decide),rfl⟩⟩,⟨by decide,by decide⟩⟩,trivial⟩,trivial⟩,trivial⟩,trivial⟩,trivial⟩,trivial⟩,trivial⟩,trivial⟩,trivial⟩,⟨by decide,by decide⟩⟩,⟨hf 2 (by decide),rfl⟩⟩,⟨by decide,by decide⟩⟩,trivial⟩,trivial⟩,trivial⟩,trivial⟩,trivial⟩,trivial⟩,trivial⟩,trivial⟩,trivial⟩,⟨by decide,by decide⟩⟩,⟨hf 3 (by decide),rfl⟩⟩,⟨by decide,by decide⟩⟩,trivial⟩,trivial⟩,trivial⟩,trivial⟩,trivial⟩,trivial⟩,trivial⟩,trivial⟩,trivial⟩,⟨by decide,by decide⟩⟩,⟨hf 4 (by decide),rfl⟩⟩,⟨by decide,by decide⟩⟩,trivial⟩,trivial⟩,trivial⟩,trivial⟩,trivial⟩,trivial⟩,trivial⟩,trivial⟩,trivial⟩,⟨by decide,by decide⟩⟩,⟨hf 5 (by decide),rfl⟩⟩,⟨by decide,by decide⟩⟩,trivial⟩,trivial⟩,trivial⟩,trivial⟩,trivial⟩,trivial⟩,trivial⟩,trivial⟩,trivial⟩,⟨by decide,by decide⟩⟩,⟨hf 6 (by decide),rfl⟩⟩,⟨by decide,by decide⟩⟩,trivial⟩,trivial⟩,trivial⟩,trivial⟩,trivial⟩,trivial⟩,trivial⟩,trivial⟩,trivial⟩,⟨by decide,by decide⟩⟩,⟨hf 7 (by decide),rfl⟩⟩,⟨by decide,by decide⟩⟩,trivial⟩,trivial⟩,trivial⟩,trivial⟩,trivial⟩,trivial⟩,trivial⟩,trivial⟩,trivial⟩,⟨by decide,by decide⟩⟩,⟨hf 8 (by decide),rfl⟩⟩,⟨by decide,by decide⟩⟩,trivial⟩,trivial⟩,trivial⟩,trivial⟩,trivial⟩,trivial⟩,trivial⟩,trivial⟩,trivial⟩,⟨by decide,by decide⟩⟩,⟨hf 9 (by decide),rfl⟩⟩,⟨by decide,by decide⟩⟩,trivial⟩,trivial⟩,trivial⟩,trivial⟩,trivial⟩,trivial⟩,trivial⟩,trivial⟩,trivial⟩,⟨by decide,by decide⟩⟩,⟨hf 10 (by decide),rfl⟩⟩,⟨by decide,by decide⟩⟩,trivial⟩,trivial⟩,trivial⟩,trivial⟩,trivial⟩,trivial⟩,trivial⟩,trivial⟩,trivial⟩,⟨by decide,by decide⟩⟩,⟨hf 11 (by decide),rfl⟩⟩,⟨by decide,by decide⟩⟩,trivial⟩,trivial⟩,trivial⟩,trivial⟩,trivial⟩,trivial⟩,trivial⟩,trivial⟩,trivial⟩,⟨by decide,by decide⟩⟩,⟨hf 12 (by decide),rfl⟩⟩,⟨by decide,by decide⟩⟩,trivial⟩,trivial⟩,trivial⟩,trivial⟩,trivial⟩,trivial⟩,trivial⟩,trivial⟩,trivial⟩,⟨by decide,by decide⟩⟩,⟨hf 13 (by decide),rfl⟩⟩,⟨by decide,by decide⟩⟩,trivial⟩,trivial⟩,trivial⟩,trivial⟩,trivial⟩,trivial⟩,trivial⟩,trivial⟩,trivial⟩,⟨by decide,by decide⟩⟩,⟨hf 14 (by decide),rfl⟩⟩,⟨by decide,by decide⟩⟩,trivial⟩,trivial⟩,trivial⟩,trivial⟩,trivial⟩,trivial⟩,trivial⟩,trivial⟩,trivial⟩,⟨by decide,by decide⟩⟩,⟨hf 15 (by decide),rfl⟩⟩,⟨by decide,by decide⟩⟩,trivial⟩,trivial⟩,trivial⟩,trivial⟩,trivial⟩,trivial⟩,trivial⟩,trivial⟩,trivial⟩,⟨by decide,by decide⟩⟩,⟨hf 16 (by decide),rfl⟩⟩,⟨by decide,by decide⟩⟩,trivial⟩,trivial⟩,trivial⟩,trivial⟩,trivial⟩,trivial⟩,trivial⟩,trivial⟩,trivial⟩,⟨by decide,by decide⟩⟩,⟨hf 17 (by decide),rfl⟩⟩,⟨by decide,by decide⟩⟩,trivial⟩,trivial⟩,trivial⟩,trivial⟩,trivial⟩,trivial⟩,trivial⟩,trivial⟩,trivial⟩,⟨by decide,by decide⟩⟩,⟨hf 18 (by decide),rfl⟩⟩,⟨by decide,by decide⟩⟩,trivial⟩,trivial⟩,trivial⟩,trivial⟩,trivial⟩,trivial⟩,trivial⟩,trivial⟩,trivial⟩,⟨by decide,by decide⟩⟩,⟨hf 19 (by decide),rfl⟩⟩,⟨by decide,by decide⟩⟩,trivial⟩,trivial⟩,trivial⟩,trivial⟩,trivial⟩,trivial⟩,trivial⟩,trivial⟩,trivial⟩,⟨by decide,by decide⟩⟩,⟨hf 20 (by decide),rfl⟩⟩,⟨by decide,by decide⟩⟩,trivial⟩,trivial⟩,trivial⟩,trivial⟩,trivial⟩,trivial⟩,trivial⟩,trivial⟩,trivial⟩,⟨by decide,by decide⟩⟩,⟨hf 21 (by decide),rfl⟩⟩,⟨by decide,by decide⟩⟩,trivial⟩,trivial⟩,trivial⟩,trivial⟩,trivial⟩,trivial⟩,trivial⟩,trivial⟩,trivial⟩,⟨by decide,by decide⟩⟩,⟨hf 22 (by decide),rfl⟩⟩,⟨by decide,by decide⟩⟩,trivial⟩,trivial⟩,trivial⟩,trivial⟩,trivial⟩,trivial⟩,trivial⟩,trivial⟩,trivial⟩,⟨by decide,by decide⟩⟩,⟨hf 23 (by decide),rfl⟩⟩,⟨by decide,by decide⟩⟩,trivial⟩,trivial⟩,trivial⟩,trivial⟩,trivial⟩,trivial⟩,trivial⟩,trivial⟩,trivial⟩,⟨by decide,by decide⟩⟩,⟨hf 24 (by decide),rfl⟩⟩,⟨by decide,by decide⟩⟩,trivial⟩,trivial⟩,trivial⟩,trivial⟩,trivial⟩,trivial⟩,trivial⟩,trivial⟩,trivial⟩,⟨by decide,by decide⟩⟩,⟨hf 25 (by decide),rfl⟩⟩,⟨by decide,by decide⟩⟩,trivial⟩,trivial⟩,trivial⟩,trivial⟩,trivial⟩,trivial⟩,trivial⟩,trivial⟩,trivial⟩,⟨by decide,by decide⟩⟩,⟨hf 26 (by decide),rfl⟩⟩,⟨by decide,by decide⟩⟩,trivial⟩,trivial⟩,trivial⟩,trivial⟩,trivial⟩,trivial⟩,trivial⟩,trivial⟩,trivial⟩,⟨by decide,by decide⟩⟩,⟨hf 27 (by decide),rfl⟩⟩,⟨by decide,by decide⟩⟩,trivial⟩,trivial⟩,trivial⟩,trivial⟩,trivial⟩,trivial⟩,trivial⟩,trivial⟩,trivial⟩,⟨by decide,by decide⟩⟩,⟨hf 28 (by decide),rfl⟩⟩,⟨by decide,by decide⟩⟩,trivial⟩,trivial⟩,trivial⟩,trivial⟩,trivial⟩,trivial⟩,trivial⟩,trivial⟩,trivial⟩,⟨by decide,by decide⟩⟩,⟨hf 29 (by decide),rfl⟩⟩,⟨by decide,by decide⟩⟩,trivial⟩,trivial⟩,trivial⟩,trivial⟩,trivial⟩,trivial⟩,trivial⟩,trivial⟩,trivial⟩,⟨by decide,by decide⟩⟩,⟨hf 30 (by decide),rfl⟩⟩,⟨by decide,by decide⟩⟩,trivial⟩,trivial⟩,trivial⟩,trivial⟩,trivial⟩,trivial⟩,trivial⟩,trivial⟩,trivial⟩,⟨by decide,by decide⟩⟩,⟨hf 31 (by decide),rfl⟩⟩,⟨by decide,by decide⟩⟩,trivial⟩,trivial⟩,trivial⟩,trivial⟩,trivial⟩,trivial⟩,⟨by decide,by decide⟩⟩,trivial⟩,(by decide)⟩,⟨by decide,by decide⟩⟩,trivial⟩,trivial⟩,(is_lowV hb)⟩,trivial⟩,trivial⟩,trivial⟩,one_nu _⟩,trivial⟩,⟨rfl,⟨by decide,by decide⟩⟩⟩,one_nu _⟩,trivial⟩,one_nu _⟩,trivial⟩,trivial⟩,trivial⟩,⟨(nuD.is_enc (mod_bd _)),(nuD.is_enc (mod_bd _))⟩⟩,⟨(nuD.is_enc (bd_iNum)),(nuD.is_enc (mod_bd _))⟩⟩,one_nu _⟩,trivial⟩,trivial⟩,⟨(nuD.is_enc (mod_bd _)),(nuD.is_enc ⟨by decide,by decide⟩)⟩⟩,trivial⟩,trivial⟩,trivial⟩,⟨(nuD.is_enc (bd_d)),(nuD.is_enc (bd_d))⟩⟩,⟨(nuD.is_enc ⟨by decide,by decide⟩),(nuD.is_enc (mod_bd _))⟩⟩,⟨(nuD.is_enc (mod_bd _)),(nuD.is_enc (mod_bd _))⟩⟩,one_nu _⟩,trivial⟩,(nuD.is_enc ⟨by decide,by decide⟩)⟩,trivial⟩,trivial⟩,⟨(nuD.is_enc (mod_bd _)),(nuD.is_enc (bd_d))⟩⟩,⟨(nuD.is_enc (mod_bd _)),(nuD.is_enc (mod_bd _))⟩⟩,trivial⟩,trivial⟩,⟨(nuD.is_enc (mod_bd _)),(nuD.is_enc (bd_d))⟩⟩,⟨(nuD.is_enc (mod_bd _)),(nuD.is_enc (mod_bd _))⟩⟩,one_nu _⟩,trivial⟩,trivial⟩,⟨(nuD.is_enc (mod_bd _)),(nuD.is_enc (mod_bd _))⟩⟩,trivial⟩,trivial⟩,⟨trivial,h34⟩⟩,one_nu _⟩,trivial⟩,trivial⟩,(nuD.is_enc ⟨by decide,by decide⟩)⟩,one_nu _⟩,trivial⟩,trivial⟩,trivial⟩,trivial⟩,⟨(nuD.is_enc (bd_quoV _ _)),(nuD.is_enc (mod_bd _))⟩⟩,(nuD.is_enc (mod_bd _))⟩,(nuD.is_enc (bd_absR _ (bd_nn (mod_bd _))))⟩,one_nu _⟩,trivial⟩,one_nu _⟩,trivial⟩,trivial⟩,⟨(nuD.is_enc (bd_d)),(nuD.is_enc ⟨by decide,by decide⟩)⟩⟩,one_nu _⟩,trivial⟩,trivial⟩,trivial⟩,⟨(nuD.is_enc (mod_bd _)),(nuD.is_enc ⟨by decide,by decide⟩)⟩⟩,⟨(nuD.is_enc (mod_bd _)),(nuD.is_enc (mod_bd _))⟩⟩,trivial⟩,trivial⟩,⟨(nuD.is_enc (mod_bd _)),(nuD.is_enc (mod_bd _))⟩⟩,⟨(nuD.is_enc (mod_bd _)),(nuD.is_enc (mod_bd _))⟩⟩,trivial⟩,⟨(nuD.is_enc (mod_bd _)),(nuD.is_enc (mod_bd _))⟩⟩,one_nu _⟩,⟨rfl,⟨by decide,by decide⟩⟩⟩,trivial⟩,trivial⟩,⟨(nuD.is_enc (mod_bd _)),(nuD.is_enc (mod_bd _))⟩⟩,⟨(nuD.is_enc ⟨by decide,by decide⟩),(nuD.is_enc (mod_bd _))⟩⟩,one_nu _⟩,trivial⟩,trivial⟩,⟨(nuD.is_enc (mod_bd _)),(nuD.is_enc (bd_mNum))⟩⟩,one_nu _⟩,trivial⟩,trivial⟩,trivial⟩,⟨(nuD.is_enc (mod_bd _)),(nuD.is_enc (mod_bd _))⟩⟩,⟨(nuD.is_enc ⟨by decide,by decide⟩),(nuD.is_enc (mod_bd _))⟩⟩,one_nu _⟩,trivial⟩,trivial⟩,trivial⟩,⟨(nuD.is_enc (mod_bd _)),(nuD.is_enc (mod_bd _))⟩⟩,⟨(nuD.is_enc ⟨by decide,by decide⟩),(nuD.is_enc (mod_bd _))⟩⟩,one_nu _⟩,trivial⟩,trivial⟩,⟨(nuD.is_enc (mod_bd _)),(nuD.is_enc (mod_bd _))⟩⟩,trivial⟩,trivial⟩,⟨(nuD.is_enc (mod_bd _)),(nuD.is_enc (mod_bd _))⟩⟩,trivial⟩,trivial⟩,⟨(nuD.is_enc (mod_bd _)),(nuD.is_enc (mod_bd _))⟩⟩,trivial⟩,rpC_one _⟩
  · skip
    exact reads_of (n:=1) mixed Try.func86 ⟨rfl,by decide⟩ _ (rh_0 a f o c) rfl ⟨⟨⟨⟨⟨⟨⟨⟨⟨⟨⟨⟨⟨⟨⟨⟨⟨⟨⟨⟨⟨⟨⟨⟨⟨⟨⟨⟨⟨⟨⟨⟨⟨⟨⟨⟨⟨⟨⟨⟨⟨⟨⟨⟨⟨⟨⟨⟨⟨⟨⟨⟨⟨⟨⟨⟨⟨⟨⟨⟨⟨⟨⟨⟨⟨⟨⟨⟨⟨⟨⟨⟨⟨⟨⟨⟨⟨⟨⟨⟨⟨⟨⟨⟨⟨⟨⟨⟨⟨⟨⟨⟨⟨⟨⟨⟨⟨⟨⟨⟨⟨⟨⟨⟨⟨⟨⟨⟨⟨⟨⟨⟨⟨⟨⟨⟨⟨⟨⟨⟨⟨⟨⟨⟨⟨⟨⟨⟨⟨⟨⟨⟨⟨⟨⟨⟨⟨⟨⟨⟨⟨⟨⟨⟨⟨⟨⟨⟨⟨⟨⟨⟨⟨⟨⟨⟨⟨⟨⟨⟨⟨⟨⟨⟨⟨⟨⟨⟨⟨⟨⟨⟨⟨⟨⟨⟨⟨⟨⟨⟨⟨⟨⟨⟨⟨⟨⟨⟨⟨⟨⟨⟨⟨⟨⟨⟨⟨⟨⟨⟨⟨⟨⟨⟨⟨⟨⟨⟨⟨⟨⟨⟨⟨⟨⟨⟨⟨⟨⟨⟨⟨⟨⟨⟨⟨⟨⟨⟨⟨⟨⟨⟨⟨⟨⟨⟨⟨⟨⟨⟨⟨⟨⟨⟨⟨⟨⟨⟨⟨⟨⟨⟨⟨⟨⟨⟨⟨⟨⟨⟨⟨⟨⟨⟨⟨⟨⟨⟨⟨⟨⟨⟨⟨⟨⟨⟨⟨⟨⟨⟨⟨⟨⟨⟨⟨⟨⟨⟨⟨⟨⟨⟨⟨⟨⟨⟨⟨⟨⟨⟨⟨⟨⟨⟨⟨⟨⟨⟨⟨⟨⟨⟨⟨⟨⟨⟨⟨⟨⟨⟨⟨⟨⟨⟨⟨⟨⟨⟨⟨⟨⟨⟨⟨⟨⟨⟨⟨⟨⟨⟨⟨⟨⟨⟨⟨⟨⟨⟨⟨⟨⟨⟨⟨⟨⟨⟨⟨⟨⟨⟨⟨⟨⟨⟨⟨⟨⟨⟨⟨⟨⟨⟨⟨⟨⟨⟨⟨⟨⟨⟨⟨⟨⟨⟨⟨⟨⟨⟨⟨⟨⟨⟨⟨⟨⟨⟨⟨⟨⟨⟨⟨⟨⟨⟨⟨⟨⟨⟨⟨⟨⟨⟨⟨⟨⟨⟨⟨⟨⟨⟨⟨⟨⟨⟨⟨⟨⟨⟨⟨⟨⟨⟨⟨⟨⟨⟨⟨⟨⟨⟨⟨⟨⟨⟨⟨⟨⟨⟨⟨⟨⟨⟨⟨⟨⟨⟨⟨⟨⟨⟨⟨⟨⟨⟨⟨⟨⟨⟨⟨⟨⟨⟨⟨⟨⟨⟨⟨⟨⟨⟨⟨⟨⟨⟨⟨⟨⟨⟨⟨⟨⟨⟨trivial,trivial⟩,trivial⟩,trivial⟩,trivial⟩,trivial⟩,trivial⟩,⟨by decide,by decide⟩⟩,⟨hf 0 (by decide),rfl⟩⟩,⟨by decide,by decide⟩⟩,trivial⟩,trivial⟩,trivial⟩,trivial⟩,trivial⟩,trivial⟩,trivial⟩,trivial⟩,trivial⟩,⟨by decide,by decide⟩⟩,⟨hf 1 (by decide),rfl⟩⟩,⟨by decide,by decide⟩⟩,trivial⟩,trivial⟩,trivial⟩,trivial⟩,trivial⟩,trivial⟩,trivial⟩,trivial⟩,trivial⟩,⟨by decide,by decide⟩⟩,⟨hf 2 (by decide),rfl⟩⟩,⟨by decide,by decide⟩⟩,trivial⟩,trivial⟩,trivial⟩,trivial⟩,trivial⟩,trivial⟩,trivial⟩,trivial⟩,trivial⟩,⟨by decide,by decide⟩⟩,⟨hf 3 (by decide),rfl⟩⟩,⟨by decide,by decide⟩⟩,trivial⟩,trivial⟩,trivial⟩,trivial⟩,trivial⟩,trivial⟩,trivial⟩,trivial⟩,trivial⟩,⟨by decide,by decide⟩⟩,⟨hf 4 (by decide),rfl⟩⟩,⟨by decide,by decide⟩⟩,trivial⟩,trivial⟩,trivial⟩,trivial⟩,trivial⟩,trivial⟩,trivial⟩,trivial⟩,trivial⟩,⟨by decide,by decide⟩⟩,⟨hf 5 (by decide),rfl⟩⟩,⟨by decide,by decide⟩⟩,trivial⟩,trivial⟩,trivial⟩,trivial⟩,trivial⟩,trivial⟩,trivial⟩,trivial⟩,trivial⟩,⟨by decide,by decide⟩⟩,⟨hf 6 (by decide),rfl⟩⟩,⟨by decide,by decide⟩⟩,trivial⟩,trivial⟩,trivial⟩,trivial⟩,trivial⟩,trivial⟩,trivial⟩,trivial⟩,trivial⟩,⟨by decide,by decide⟩⟩,⟨hf 7 (by decide),rfl⟩⟩,⟨by decide,by decide⟩⟩,trivial⟩,trivial⟩,trivial⟩,trivial⟩,trivial⟩,trivial⟩,trivial⟩,trivial⟩,trivial⟩,⟨by decide,by decide⟩⟩,⟨hf 8 (by decide),rfl⟩⟩,⟨by decide,by decide⟩⟩,trivial⟩,trivial⟩,trivial⟩,trivial⟩,trivial⟩,trivial⟩,trivial⟩,trivial⟩,trivial⟩,⟨by decide,by decide⟩⟩,⟨hf 9 (by decide),rfl⟩⟩,⟨by decide,by decide⟩⟩,trivial⟩,trivial⟩,trivial⟩,trivial⟩,trivial⟩,trivial⟩,trivial⟩,trivial⟩,trivial⟩,⟨by decide,by decide⟩⟩,⟨hf 10 (by decide),rfl⟩⟩,⟨by decide,by decide⟩⟩,trivial⟩,trivial⟩,trivial⟩,trivial⟩,trivial⟩,trivial⟩,trivial⟩,trivial⟩,trivial⟩,⟨by decide,by decide⟩⟩,⟨hf 11 (by decide),rfl⟩⟩,⟨by decide,by decide⟩⟩,trivial⟩,trivial⟩,trivial⟩,trivial⟩,trivial⟩,trivial⟩,trivial⟩,trivial⟩,trivial⟩,⟨by decide,by decide⟩⟩,⟨hf 12 (by decide),rfl⟩⟩,⟨by decide,by decide⟩⟩,trivial⟩,trivial⟩,trivial⟩,trivial⟩,trivial⟩,trivial⟩,trivial⟩,trivial⟩,trivial⟩,⟨by decide,by decide⟩⟩,⟨hf 13 (by decide),rfl⟩⟩,⟨by decide,by decide⟩⟩,trivial⟩,trivial⟩,trivial⟩,trivial⟩,trivial⟩,trivial⟩,trivial⟩,trivial⟩,trivial⟩,⟨by decide,by decide⟩⟩,⟨hf 14 (by decide),rfl⟩⟩,⟨by decide,by decide⟩⟩,trivial⟩,trivial⟩,trivial⟩,trivial⟩,trivial⟩,trivial⟩,trivial⟩,trivial⟩,trivial⟩,⟨by decide,by decide⟩⟩,⟨hf 15 (by decide),rfl⟩⟩,⟨by decide,by decide⟩⟩,trivial⟩,trivial⟩,trivial⟩,trivial⟩,trivial⟩,trivial⟩,trivial⟩,trivial⟩,trivial⟩,⟨by decide,by decide⟩⟩,⟨hf 16 (by decide),rfl⟩⟩,⟨by decide,by decide⟩⟩,trivial⟩,trivial⟩,trivial⟩,trivial⟩,trivial⟩,trivial⟩,trivial⟩,trivial⟩,trivial⟩,⟨by decide,by decide⟩⟩,⟨hf 17 (by decide),rfl⟩⟩,⟨by decide,by decide⟩⟩,trivial⟩,trivial⟩,trivial⟩,trivial⟩,trivial⟩,trivial⟩,trivial⟩,trivial⟩,trivial⟩,⟨by decide,by decide⟩⟩,⟨hf 18 (by decide),rfl⟩⟩,⟨by decide,by decide⟩⟩,trivial⟩,trivial⟩,trivial⟩,trivial⟩,trivial⟩,trivial⟩,trivial⟩,trivial⟩,trivial⟩,⟨by decide,by decide⟩⟩,⟨hf 19 (by decide),rfl⟩⟩,⟨by decide,by decide⟩⟩,trivial⟩,trivial⟩,trivial⟩,trivial⟩,trivial⟩,trivial⟩,trivial⟩,trivial⟩,trivial⟩,⟨by decide,by decide⟩⟩,⟨hf 20 (by decide),rfl⟩⟩,⟨by decide,by decide⟩⟩,trivial⟩,trivial⟩,trivial⟩,trivial⟩,trivial⟩,trivial⟩,trivial⟩,trivial⟩,trivial⟩,⟨by decide,by decide⟩⟩,⟨hf 21 (by decide),rfl⟩⟩,⟨by decide,by decide⟩⟩,trivial⟩,trivial⟩,trivial⟩,trivial⟩,trivial⟩,trivial⟩,trivial⟩,trivial⟩,trivial⟩,⟨by decide,by decide⟩⟩,⟨hf 22 (by decide),rfl⟩⟩,⟨by decide,by decide⟩⟩,trivial⟩,trivial⟩,trivial⟩,trivial⟩,trivial⟩,trivial⟩,trivial⟩,trivial⟩,trivial⟩,⟨by decide,by decide⟩⟩,⟨hf 23 (by decide),rfl⟩⟩,⟨by decide,by decide⟩⟩,trivial⟩,trivial⟩,trivial⟩,trivial⟩,trivial⟩,trivial⟩,trivial⟩,trivial⟩,trivial⟩,⟨by decide,by decide⟩⟩,⟨hf 24 (by decide),rfl⟩⟩,⟨by decide,by decide⟩⟩,trivial⟩,trivial⟩,trivial⟩,trivial⟩,trivial⟩,trivial⟩,trivial⟩,trivial⟩,trivial⟩,⟨by decide,by decide⟩⟩,⟨hf 25 (by decide),rfl⟩⟩,⟨by decide,by decide⟩⟩,trivial⟩,trivial⟩,trivial⟩,trivial⟩,trivial⟩,trivial⟩,trivial⟩,trivial⟩,trivial⟩,⟨by decide,by decide⟩⟩,⟨hf 26 (by decide),rfl⟩⟩,⟨by decide,by decide⟩⟩,trivial⟩,trivial⟩,trivial⟩,trivial⟩,trivial⟩,trivial⟩,trivial⟩,trivial⟩,trivial⟩,⟨by decide,by decide⟩⟩,⟨hf 27 (by decide),rfl⟩⟩,⟨by decide,by decide⟩⟩,trivial⟩,trivial⟩,trivial⟩,trivial⟩,trivial⟩,trivial⟩,trivial⟩,trivial⟩,trivial⟩,⟨by decide,by decide⟩⟩,⟨hf 28 (by decide),rfl⟩⟩,⟨by decide,by decide⟩⟩,trivial⟩,trivial⟩,trivial⟩,trivial⟩,trivial⟩,trivial⟩,trivial⟩,trivial⟩,trivial⟩,⟨by decide,by decide⟩⟩,⟨hf 29 (by decide),rfl⟩⟩,⟨by decide,by decide⟩⟩,trivial⟩,trivial⟩,trivial⟩,trivial⟩,trivial⟩,trivial⟩,trivial⟩,trivial⟩,trivial⟩,⟨by decide,by decide⟩⟩,⟨hf 30 (by decide),rfl⟩⟩,⟨by decide,by decide⟩⟩,trivial⟩,trivial⟩,trivial⟩,trivial⟩,trivial⟩,trivial⟩,trivial⟩,trivial⟩,trivial⟩,⟨by decide,by decide⟩⟩,⟨hf 31 (by decide),rfl⟩⟩,⟨by decide,by decide⟩⟩,trivial⟩,trivial⟩,trivial⟩,trivial⟩,trivial⟩,trivial⟩,⟨by decide,by decide⟩⟩,trivial⟩,(by decide)⟩,⟨by decide,by decide⟩⟩,trivial⟩,trivial⟩,(is_lowV hb)⟩,trivial⟩,trivial⟩,trivial⟩,one_nu _⟩,trivial⟩,⟨rfl,⟨by decide,by decide⟩⟩⟩,one_nu _⟩,trivial⟩,one_nu _⟩,trivial⟩,trivial⟩,trivial⟩,⟨(nuD.is_enc (mod_bd _)),(nuD.is_enc (mod_bd _))⟩⟩,⟨(nuD.is_enc (bd_iNum)),(nuD.is_enc (mod_bd _))⟩⟩,one_nu _⟩,trivial⟩,trivial⟩,⟨(nuD.is_enc (mod_bd _)),(nuD.is_enc ⟨by decide,by decide⟩)⟩⟩,trivial⟩,trivial⟩,trivial⟩,⟨(nuD.is_enc (bd_d)),(nuD.is_enc (bd_d))⟩⟩,⟨(nuD.is_enc ⟨by decide,by decide⟩),(nuD.is_enc (mod_bd _))⟩⟩,⟨(nuD.is_enc (mod_bd _)),(nuD.is_enc (mod_bd _))⟩⟩,one_nu _⟩,trivial⟩,(nuD.is_enc ⟨by decide,by decide⟩)⟩,trivial⟩,trivial⟩,⟨(nuD.is_enc (mod_bd _)),(nuD.is_enc (bd_d))⟩⟩,⟨(nuD.is_enc (mod_bd _)),(nuD.is_enc (mod_bd _))⟩⟩,trivial⟩,trivial⟩,⟨(nuD.is_enc (mod_bd _)),(nuD.is_enc (bd_d))⟩⟩,⟨(nuD.is_enc (mod_bd _)),(nuD.is_enc (mod_bd _))⟩⟩,one_nu _⟩,trivial⟩,trivial⟩,⟨(nuD.is_enc (mod_bd _)),(nuD.is_enc (mod_bd _))⟩⟩,trivial⟩,trivial⟩,⟨trivial,h34⟩⟩,one_nu _⟩,trivial⟩,trivial⟩,(nuD.is_enc ⟨by decide,by decide⟩)⟩,one_nu _⟩,trivial⟩,trivial⟩,trivial⟩,trivial⟩,⟨(nuD.is_enc (bd_d)),(nuD.is_enc ⟨by decide,by decide⟩)⟩⟩,one_nu _⟩,trivial⟩,trivial⟩,trivial⟩,⟨(nuD.is_enc (mod_bd _)),(nuD.is_enc ⟨by decide,by decide⟩)⟩⟩,⟨(nuD.is_enc (mod_bd _)),(nuD.is_enc (mod_bd _))⟩⟩,trivial⟩,trivial⟩,⟨(nuD.is_enc (mod_bd _)),(nuD.is_enc (mod_bd _))⟩⟩,⟨(nuD.is_enc (mod_bd _)),(nuD.is_enc (mod_bd _))⟩⟩,trivial⟩,⟨(nuD.is_enc (mod_bd _)),(nuD.is_enc (mod_bd _))⟩⟩,one_nu _⟩,⟨rfl,⟨by decide,by decide⟩⟩⟩,trivial⟩,trivial⟩,⟨(nuD.is_enc (bd_quoV _ _)),(nuD.is_enc (mod_bd _))⟩⟩,⟨(nuD.is_enc ⟨by decide,by decide⟩),(nuD.is_enc (mod_bd _))⟩⟩,one_nu _⟩,trivial⟩,trivial⟩,⟨(nuD.is_enc (mod_bd _)),(nuD.is_enc (bd_mNum))⟩⟩,one_nu _⟩,trivial⟩,trivial⟩,trivial⟩,⟨(nuD.is_enc (bd_quoV _ _)),(nuD.is_enc (bd_quoV _ _))⟩⟩,⟨(nuD.is_enc ⟨by decide,by decide⟩),(nuD.is_enc (mod_bd _))⟩⟩,one_nu _⟩,trivial⟩,trivial⟩,trivial⟩,⟨(nuD.is_enc (bd_quoV _ _)),(nuD.is_enc (bd_quoV _ _))⟩⟩,⟨(nuD.is_enc ⟨by decide,by decide⟩),(nuD.is_enc (mod_bd _))⟩⟩,one_nu _⟩,trivial⟩,trivial⟩,⟨(nuD.is_enc (mod_bd _)),(nuD.is_enc (mod_bd _))⟩⟩,trivial⟩,trivial⟩,⟨(nuD.is_enc (mod_bd _)),(nuD.is_enc (mod_bd _))⟩⟩,trivial⟩,trivial⟩,⟨(nuD.is_enc (mod_bd _)),(nuD.is_enc (mod_bd _))⟩⟩,trivial⟩,rpC_one _⟩
def rh_S (a:Array Value) (f:Nat→Int) (o c:Nat):Value:=cond (quoB ((rh_u5 a f o c)) ((rh_u9 a f o c))) (.agg (rpC (⟨(rh_u23 a f o c),(rh_u24 a f o c),(rh_u25 a f o c)⟩:P3))) (.agg (rpC (⟨(rh_u38 a f o c),(rh_u39 a f o c),(rh_u40 a f o c)⟩:P3)))
theorem rh_e (a:Array Value) (f:Nat→Int) (o c:Nat) (hb:∀ j,0≤f j∧f j<256) (hf:∀ k,k<32→a[o+k]? =some (.int .u8 (f k))):rh_F a f o c=rh_S a f o c:=by
  unfold rh_F rh_S
  try simp only[nm_mod,nn_mod,nm_inv,nn_inv,nm_d,nn_d,nm_1,nn_1,nm_root,nn_quo,db_lowf hb,nn_i,nn_absm,nn_2,nn_mN,nn_quoV,rh_x0 a f o c hb hf,rh_x1 a f o c hb hf,rh_x2 a f o c hb hf,rh_x3 a f o c hb hf,rh_x4 a f o c hb hf,rh_x5 a f o c hb hf,rh_x6 a f o c hb hf,rh_x7 a f o c hb hf,rh_x8 a f o c hb hf,rh_x9 a f o c hb hf,rh_x10 a f o c hb hf,rh_x11 a f o c hb hf,rh_x12 a f o c hb hf,rh_x13 a f o c hb hf,rh_x14 a f o c hb hf,rh_x15 a f o c hb hf,rh_x16 a f o c hb hf,rh_x17 a f o c hb hf,rh_x18 a f o c hb hf,rh_x19 a f o c hb hf,rh_x20 a f o c hb hf,rh_x21 a f o c hb hf,rh_x22 a f o c hb hf,rh_x23 a f o c hb hf,rh_x24 a f o c hb hf,rh_x25 a f o c hb hf,rh_x26 a f o c hb hf,rh_x27 a f o c hb hf,rh_x28 a f o c hb hf,rh_x29 a f o c hb hf,rh_x30 a f o c hb hf,rh_x31 a f o c hb hf,rh_x32 a f o c hb hf,rh_x33 a f o c hb hf,rh_x34 a f o c hb hf,rh_x35 a f o c hb hf,rh_x36 a f o c hb hf,rh_x37 a f o c hb hf,rh_x38 a f o c hb hf,rh_x39 a f o c hb hf,rh_x40 a f o c hb hf]
  try simp only[rh_w0 a f o c hb hf,rh_w1 a f o c hb hf,rh_w2 a f o c hb hf,rh_w3 a f o c hb hf,rh_w4 a f o c hb hf,rh_w5 a f o c hb hf,rh_w6 a f o c hb hf,rh_w7 a f o c hb hf,rh_w8 a f o c hb hf,rh_w9 a f o c hb hf,rh_w10 a f o c hb hf,rh_w11 a f o c hb hf,rh_w12 a f o c hb hf,rh_w13 a f o c hb hf,rh_w14 a f o c hb hf,rh_w15 a f o c hb hf,rh_w16 a f o c hb hf,rh_w17 a f o c hb hf,rh_w18 a f o c hb hf,rh_w19 a f o c hb hf,rh_w20 a f o c hb hf,rh_w21 a f o c hb hf,rh_w22 a f o c hb hf,rh_w23 a f o c hb hf,rh_w24 a f o c hb hf,rh_w25 a f o c hb hf,rh_w26 a f o c hb hf,rh_w27 a f o c hb hf,rh_w28 a f o c hb hf,rh_w29 a f o c hb hf,rh_w30 a f o c hb hf,rh_w31 a f o c hb hf,rh_w32 a f o c hb hf,rh_w33 a f o c hb hf,rh_w34 a f o c hb hf,rh_w35 a f o c hb hf,rh_w36 a f o c hb hf,rh_w37 a f o c hb hf,rh_w38 a f o c hb hf,rh_w39 a f o c hb hf,rh_w40 a f o c hb hf]
theorem quoV_m (a b:Int):fp (quoV (a%pr) (b%pr))=rtE (fp a) (fp b):=by rw[fp_quoV _ _ (mod_bd a) (mod_bd b),fp_mod,fp_mod]
theorem quoB_m (a b:Int):quoB (a%pr) (b%pr)=rbE (fp a) (fp b):=by rw[quoB_E _ _ (mod_bd a) (mod_bd b),fp_mod,fp_mod]
def rhalf (m:Int):P3:=⟨((w0 (fp m)*w3 (fp m)).val:Int),((w2 (fp m)*w1 (fp m)).val:Int),((w1 (fp m)*w3 (fp m)).val:Int)⟩
theorem nu3_rhalf (m:Int):Nu3 (rhalf m):=⟨fval_bd _,fval_bd _,fval_bd _⟩
theorem rhalf_rep (m:Int):RepN (rhalf m) (halfE (fp m)):=by
  refine⟨nu3_rhalf m,?_⟩
  show Rep3 (fp _) (fp _) (fp _) _
  unfold rhalf
  rw[fp_surj,fp_surj,fp_surj]
  exact(half_rep _).three
theorem rp3m (x y z:Int):rpC (⟨x%pr,y%pr,z%pr⟩:P3)=rpC (⟨((fp x).val:Int),((fp y).val:Int),((fp z).val:Int)⟩:P3):=by rw[mod_fp,mod_fp y,mod_fp z]
theorem rh_eq (a:Array Value) (f:Nat→Int) (o c:Nat) (hb:∀ j,0≤f j∧f j<256):rh_S a f o c= .agg (rpC (rhalf (lowF f))):=by
  unfold rh_S
  delta rh_u0 rh_u1 rh_u2 rh_u3 rh_u4 rh_u5 rh_u6 rh_u7 rh_u8 rh_u9 rh_u10 rh_u11 rh_u12 rh_u13 rh_u14 rh_u15 rh_u16 rh_u17 rh_u18 rh_u19 rh_u20 rh_u21 rh_u22 rh_u23 rh_u24 rh_u25 rh_u26 rh_u27 rh_u28 rh_u29 rh_u30 rh_u31 rh_u32 rh_u33 rh_u34 rh_u35 rh_u36 rh_u37 rh_u38 rh_u39 rh_u40
  simp only[db_lowf hb,rp3m,fp_mod,fp_absR,fp_mul,fp_add,fp_sub,fp_neg,quoV_m,quoB_m,fp_one,fp_i,fp_m,fp_2,fp_dd,vneg]
  unfold rhalf w0 w1 w2 w3 hNn hC hS hV hU hR
  generalize lowF f=m
  cases rbE ((iE*(fp m*fp m)+1)*(1 - dE*dE)) (-(1+iE*(fp m*fp m)*dE)*(iE*(fp m*fp m)+dE)) with
  |true=>simp only[cT]
  |false=>simp only[cF]
theorem b6_at (n:Int) (k:Nat) (h:k<64):(b6C n)[k]? =some (.int .u8 (byt n k)):=by
  unfold b6C
  simp[h]
theorem reads1 {f:FuncId} {cs:Array Value} {t:TypeId} {o l c:Nat} {v:Value} (h:Reads Try.prog f [(cs,t)] [.slice (some ⟨0,o,none⟩) l c] v) {mem:List (Array Value×TypeId)} {i:Nat} (hm:mem[i]? =some (cs,t)) {w:World} {β:Nat→Nat} (hw:Has w β mem):Calls Try.prog f ([Value.slice (some ⟨i,o,none⟩) l c].map (rn β)).toArray w (fun e w'=>e= .returned v∧Below w.heap.size w w'):=
  h w (fun _ => β i) (fun j x hx => by
    cases j with
    |zero=>simp only[List.getElem?_cons_zero,Option.some.injEq] at hx;subst hx;exact hw i _ hm
    |succ j=>simp at hx)
theorem is_b6 {cs:Array Value} (h:b6D.is cs):∃ n:Int,Ok6 n∧cs=b6C n:=h
theorem RHalfA_c (n:Int) (hn:Ok6 n):Reads Try.prog 86 [(b6C n,33)] [.slice (some ⟨0,0,none⟩) 32 64] (.agg (rpC (rhalf (lowF (byt n))))):=by
  have hb:∀ j,0≤byt n j∧byt n j<256:=fun j=>byt_bd n j
  have hf:∀ k,k<32→(b6C n)[0+k]? =some (.int .u8 (byt n k)):=fun k hk=>by rw[Nat.zero_add];exact b6_at n k (by omega)
  have:=rh_p (b6C n) (byt n) 0 64 hb hf
  rwa[rh_e _ _ _ _ hb hf,rh_eq _ _ _ _ hb] at this
theorem RHalfB_c (n:Int) (hn:Ok6 n):Reads Try.prog 86 [(b6C n,33)] [.slice (some ⟨0,32,none⟩) 32 32] (.agg (rpC (rhalf (lowF (fun j=>byt n (32+j)))))):=by
  have hb:∀ j,0≤byt n (32+j)∧byt n (32+j)<256:=fun j=>byt_bd n (32+j)
  have hf:∀ k,k<32→(b6C n)[32+k]? =some (.int .u8 (byt n (32+k))):=fun k hk=>b6_at n (32+k) (by omega)
  have:=rh_p (b6C n) (fun j=>byt n (32+j)) 32 32 hb hf
  rwa[rh_e _ _ _ _ hb hf,rh_eq _ _ _ _ hb] at this
def qHalf : Entry Try.prog where
  f:=86
  g := fun mem xs => match xs with
    | [.slice (some ⟨i, o, none⟩) l c] => (match mem[i]? with
      |some (cs,t)=>if o=0∧l=32∧c=64 then some (.agg (rpC (rhalf (lowF (byt (db cs))))),t=33∧b6D.is cs) else if o=32∧l=32∧c=32 then some (.agg (rpC (rhalf (lowF (fun j=>byt (db cs) (32+j))))),t=33∧b6D.is cs) else none
      |none=>none)
    |_=>none
  ok := fun mem xs v c e hc w β hw => by
    split at e
    · rename_i i o l c'
      split at e
      · rename_i cs t hm
        split at e
        · rename_i h0
          obtain⟨rfl,rfl,rfl⟩:=h0
          simp only[Option.some.injEq,Prod.mk.injEq] at e
          obtain⟨rfl,rfl⟩:=e
          obtain⟨rfl,hc⟩:=hc
          obtain⟨n,hn,rfl⟩:=is_b6 hc
          rw[db_b6C n hn]
          exact reads1 (RHalfA_c n hn) hm hw
        · split at e
          · rename_i h0
            obtain⟨rfl,rfl,rfl⟩:=h0
            simp only[Option.some.injEq,Prod.mk.injEq] at e
            obtain⟨rfl,rfl⟩:=e
            obtain⟨rfl,hc⟩:=hc
            obtain⟨n,hn,rfl⟩:=is_b6 hc
            rw[db_b6C n hn]
            exact reads1 (RHalfB_c n hn) hm hw
          · cases e
      · cases e
    · cases e
  call:=call_of Try.func86 (by kernel_rfl) (by kernel_rfl)
def tab22:List (Entry Try.prog):=qHalf :: pMap :: tab18
theorem dr_rhalf (m:Int):dr (rpC (rhalf m))=rhalf m:=dr_rpC _ (nu3_rhalf m)
def rmp_h (i:Nat):Hn:=if i=1 then⟨5,[],[],[],[]⟩ else⟨0,[],[],[],[]⟩
theorem rmp_0 (n:Int):evF (yty.en tab22) rmp_h Try.f38 [.agg (b6C n)] []=some (.agg (rpC (rab_R (dr (rpC (rhalf (lowF (byt (db (b6C n))))))) (dr (rpC (rhalf (lowF (fun j=>byt (db (b6C n)) (32+j)))))) dN)),((((((True∧True)∧(33=33∧b6D.is (b6C n)))∧True)∧(33=33∧b6D.is (b6C n)))∧(rpD.is (rpC (rhalf (lowF (byt (db (b6C n))))))∧rpD.is (rpC (rhalf (lowF (fun j=>byt (db (b6C n)) (32+j)))))))∧((rpC (rab_R (dr (rpC (rhalf (lowF (byt (db (b6C n))))))) (dr (rpC (rhalf (lowF (fun j=>byt (db (b6C n)) (32+j)))))) dN)).all (fun v=>v.oneCell')=true))):=by kernel_rfl
def rmp_F (n:Int):Value:= .agg (rpC (rab_R (dr (rpC (rhalf (lowF (byt (db (b6C n))))))) (dr (rpC (rhalf (lowF (fun j=>byt (db (b6C n)) (32+j)))))) dN))
set_option maxHeartbeats 4000000 in
theorem rmp_p (n:Int) (hn:Ok6 n):Pure Try.prog 38 #[.agg (b6C n)] (rmp_F n):=by
  unfold rmp_F
  exact pure_of mixed Try.func38 _ (rmp_0 n) rfl ⟨⟨⟨⟨⟨⟨trivial,trivial⟩,⟨rfl,(b6D.is_enc (hn))⟩⟩,trivial⟩,⟨rfl,(b6D.is_enc (hn))⟩⟩,⟨(rpD.is_enc (nu3_rhalf _)),(rpD.is_enc (nu3_rhalf _))⟩⟩,rpC_one _⟩
def rmp_R (n:Int):P3:=rab_R ((rhalf (lowF (byt (n))))) ((rhalf (lowF (fun j=>byt (n) (32+j))))) dN
def rmp_S (n:Int):Value:= .agg (rpC (rmp_R n))
theorem rmp_e (n:Int) (hn:Ok6 n):rmp_F n=rmp_S n:=by
  unfold rmp_F rmp_S rmp_R
  try simp only[nm_mod,nn_mod,nm_inv,nn_inv,nm_d,nn_d,nm_1,nn_1,nm_root,nn_quo,db_b6C _ hn,dr_rhalf]
def rmapI (n:Int):P3:=rab_R (rhalf (lowF (byt n))) (rhalf (lowF (fun j=>byt n (32+j)))) dN
theorem nu3_rmap (n:Int):Nu3 (rmapI n):=nu3_ab _ _ _
theorem RMap_c (n:Int) (hn:Ok6 n):Pure Try.prog 38 #[.agg (b6C n)] (.agg (rpC (rmapI n))):=by
  have h:=rmp_p n hn
  rwa[rmp_e n hn] at h
def qMap:Entry Try.prog:=ent1 Try.func38 (by kernel_rfl) (by kernel_rfl) b6D (fun n:Int=> .agg (rpC (rmapI n))) RMap_c
theorem rmap_rep (n:Int):RepN (rmapI n) (mapE n):=by
  rw[mapE_F]
  exact repn_add (rhalf_rep _) (rhalf_rep _)
def tab23:List (Entry Try.prog):=qMap :: tab22
theorem dr_rmap (n:Int):dr (rpC (rmapI n))=rmapI n:=dr_rpC _ (nu3_rmap n)
end Go.Proofs.Ytdebkddhpogkgaa
