import Derived.Test.YtdebkddhpogkgaaGreatZASarsNumAll
import Derived.Test.YtdebkddhpogkgaaGreatZASarsMthAll
set_option linter.unusedSimpArgs false
namespace Go.Proofs.YtdebkddhpogkgaaGreat
open Go.RowKit Go.Calm
theorem nu_lt (n:Int):∀ j,j<8→0≤nuG n j∧nuG n j<1099511627776:=fun j _=>by have:=nuG_bd n j;omega
theorem wd32_key (X:Nat) (q r:Nat) (hr:r<2):(X / 2 ^ (64*q)%18446744073709551616) / 2 ^ (32*r)%4294967296=X / 4294967296 ^ (2*q+r)%4294967296:=by
  have e1:(4294967296:Nat) ^ (2*q+r)=2 ^ (64*q)*2 ^ (32*r):=by
    rw[show(4294967296:Nat)=2 ^ 32 from rfl,← Nat.pow_mul,← Nat.pow_add];congr 1;omega
  have e2:(18446744073709551616:Nat)=2 ^ (32*r)*(2 ^ (32 - 32*r)*4294967296):=by
    rw[← Nat.mul_assoc,← Nat.pow_add,show 32*r+(32 - 32*r)=32 by omega]
  rw[e1,← Nat.div_div_eq_div_mul]
  generalize X / 2 ^ (64*q)=y
  rw[e2,Nat.mod_mul_right_div_self,Nat.mod_mul_left_mod]
theorem wd32_at (X:Int) (hX:Ok X) (q r s:Nat) (hq:q<4) (hr:r<2) (hs:s=32*r):∃ x:Int,(feC X)[q]? =some (.int .u64 x)∧0≤x∧x<18446744073709551616∧Hid (x / 2 ^ s%4294967296=nuG X (2*q+r)):=by
  unfold Ok at hX
  obtain⟨Y,rfl⟩:=Int.eq_ofNat_of_zero_le hX.1
  have key:=wd32_key Y q r hr
  have fin:∀ x:Nat,x=Y / 2 ^ (64*q)%18446744073709551616→Hid (((x:Nat):Int) / 2 ^ s%4294967296=nuG (Y:Int) (2*q+r)):=by
    intro x hx
    unfold Hid nuG
    rw[hs,hx]
    have h:=congrArg (fun n:Nat=>(n:Int)) key
    simp only[Int.natCast_emod,Int.natCast_ediv,Int.natCast_pow] at h ⊢
    exact h
  have c:q=0∨q=1∨q=2∨q=3:=by omega
  rcases c with rfl|rfl|rfl|rfl
  · exact⟨((Y%18446744073709551616:Nat):Int),by rw[Int.natCast_emod];rfl,by omega,by omega,fin _ (by rw[show 2 ^ (64*0)=1 from rfl];omega)⟩
  · exact⟨((Y / 18446744073709551616%18446744073709551616:Nat):Int),by rw[Int.natCast_emod,Int.natCast_ediv];rfl,by omega,by omega,fin _ rfl⟩
  · exact⟨((Y / 340282366920938463463374607431768211456%18446744073709551616:Nat):Int),by rw[Int.natCast_emod,Int.natCast_ediv];rfl,by omega,by omega,fin _ rfl⟩
  · exact⟨((Y / 6277101735386680763835789423207666416102355444464034512896%18446744073709551616:Nat):Int),by rw[Int.natCast_emod,Int.natCast_ediv];rfl,by omega,by omega,fin _ rfl⟩
set_option maxHeartbeats 1000000 in
theorem Words_c (A : Int) (hA : Ok A) (w : World) : Calls Tryz.prog 93 #[.agg (feC A)] w fun e w' => e = .returned (.agg (nuC (A % pr))) ∧ Below w.heap.size w w' := by
  have S:=Calm.St.start w
  have hR:=fun w=>Reduce_c (nuG A) (nu_lt A) w
  rw[val_nu A hA] at hR
  have HR:=hide hR
  clear hR
  go_enter Tryz.func93,Tryz.ntmps93
  go_wp2_with (first|(refine wl_box S rfl rfl rfl ?_;clear S;intro b W S)|(refine wl_new (ty:=70) S rfl rfl zeroNu ?_;clear S;intro b W S))
  rename_i bA _ bR _ K hK
  go_loopw [4] (fun i Wr=>∃(k:Nat) (g:Nat→Int),k≤8∧i= .int .i64 (k:Int)∧(∀ j,j<k→g j=nuG A j)∧Calm.St w Wr [⟨b,nuF g,70⟩,⟨bR,nuF (fun _=>0),70⟩,⟨bA,feC A,43⟩]) (fun i _=>8 - (intOf i).toNat)
  case atStart=>exact⟨0,_,by omega,rfl,fun j h=>by omega,S⟩
  case round =>
    clear S
    obtain⟨k,g,hk,rfl,hg,S⟩:=hrel
    by_cases hlt:k<8
    · obtain ⟨q, hq⟩ : ∃ q : Nat, q = k / 2 := ⟨_, rfl⟩
      obtain⟨r,hr⟩:∃ r:Nat,r=k%2:=⟨_,rfl⟩
      obtain⟨s,hs⟩:∃ s:Nat,s=32*r:=⟨_,rfl⟩
      have g1:IntKind.i64.wrap ((k:Int) / 2)=(q:Int):=by rw[wrap_small _ (by omega) (by omega)];omega
      have g2:(k:Int).tmod 2=(r:Int):=by rw[Int.tmod_eq_emod_of_nonneg (by omega)];omega
      have g3:IntKind.i64.wrap (32*(r:Int))=(s:Int):=by rw[wrap_small _ (by omega) (by omega)];omega
      have g4:(q:Int)<4:=by omega
      have g5:(k:Int)<8:=by omega
      have hs64:s≤64:=by omega
      obtain⟨x,hx,hx0,hx1,HX⟩:=wd32_at A hA q r s (by omega) (by omega) hs
      have Hx:=hide hx
      have Hk:=hide (show 2*q+r=k by omega)
      have g6:(x / 2 ^ s).tmod 4294967296=x / 2 ^ s%4294967296:=Int.tmod_eq_emod_of_nonneg (Int.ediv_nonneg hx0 (Int.le_of_lt (Int.pow_pos (by omega))))
      clear hx hq hr hs
      go_wp2_with (first|(refine g_load (ty:=24) rfl ?_;refine wl_loadE (ty:=24) (b:=bA) (v:= .int .u64 x) S rfl rfl rfl (by repeat constructor) Hx.out one64 ?_)|(refine g_store (ty:=24) rfl ?_;refine wl_storeE (ty:=24) (b:=b) (cs:=nuF (upd g k (x / 2 ^ s%4294967296))) S rfl rfl rfl rfl (nuF_set _ _ _) (by repeat(first|exact foc_hd|apply foc_tl)) one64 (by rw[nuF_size];omega) rfl ?_;clear S;intro W S))
      go_roundw
      case rel=>
        refine⟨k+1,_,by omega,by go_num,fun j hj=> ?_,S⟩
        by_cases e:j=k
        · subst e;rw[upd_eq,HX.out,Hk.out]
        · rw[upd_ne _ _ _ e];exact hg j (by omega)
      case measure=>simp[intOf];omega
    · have hk' : k = 8 := by omega
      subst hk'
      rw[nuF_ext g (nuG A) (fun j hj=>hg j hj)] at S
      go_wp2_with ((refine g_load (ty:=70) rfl ?_;refine wl_load (ty:=70) S rfl rfl rfl (by repeat constructor) aggNu (by rw[nuF_size]) ?_))
      refine(HR.out _).mono ?_
      rintro e W1 ⟨rfl,hb⟩
      have S:=S.call hb
      clear hb
      go_wp2_with (first|(refine g_store (ty:=70) rfl ?_;refine wl_store (ty:=70) S rfl rfl rfl rfl (by repeat(first|exact foc_hd|apply foc_tl)) aggNu (by unfold nuC;rw[nuF_size]) (by rw[nuF_size]) (nuF_one _) ?_;clear S;intro W S))
      refine Calm.ret_cell S (by rfl) (by rfl) (by repeat constructor) aggNu (by unfold nuC;rw[nuF_size]) (by rfl) ?_
      exact⟨rfl,S.below⟩
end Go.Proofs.YtdebkddhpogkgaaGreat

set_option linter.unusedSimpArgs false
namespace Go.Proofs.YtdebkddhpogkgaaGreat
open Go.RowKit Go.Calm
theorem val_add (f h:Nat→Int):∀ k,val (fun j=>f j+h j) k=val f k+val h k
  |0=>rfl
  | k + 1 => by
    simp only[val]
    rw[val_add f h k,Int.add_mul]
    omega
set_option maxHeartbeats 1000000 in
theorem RAdd_c (A B : Int) (hA : Ok A) (hB : Ok B) (w : World) : Calls Tryz.prog 92 #[.agg (nuC A), .agg (nuC B)] w fun e w' => e = .returned (.agg (nuC ((A + B) % pr))) ∧ Below w.heap.size w w' := by
  have S:=Calm.St.start w
  have hR:=fun w=>Reduce_c (fun j=>nuG A j+nuG B j) (fun j _=>by have:=nuG_bd A j;have:=nuG_bd B j;omega) w
  rw[val_add,val_nu A hA,val_nu B hB] at hR
  have HR:=hide hR
  clear hR
  go_enter Tryz.func92,Tryz.ntmps92
  go_wp2_with (first|(refine wl_box S rfl rfl rfl ?_;clear S;intro b W S)|(refine wl_new (ty:=70) S rfl rfl zeroNu ?_;clear S;intro b W S))
  rename_i bA _ bB _ K hK
  go_loopw [5] (fun i Wr=>∃(k:Nat) (g:Nat→Int),k≤8∧i= .int .i64 (k:Int)∧(∀ j,j<k→g j=nuG A j+nuG B j)∧(∀ j,k≤j→g j=nuG A j)∧Calm.St w Wr [⟨b,nuF (fun _=>0),70⟩,⟨bB,nuC B,70⟩,⟨bA,nuF g,70⟩]) (fun i _=>8 - (intOf i).toNat)
  case atStart=>exact⟨0,nuG A,by omega,rfl,fun j h=>by omega,fun _ _=>rfl,S⟩
  case round =>
    clear S
    obtain⟨k,g,hk,rfl,hg,hg2,S⟩:=hrel
    by_cases hlt:k<8
    · have g5 : (k : Int) < 8 := by omega
      have Hx:=hide (nuF_at g k hlt)
      have Hy:Hid ((nuC B)[k]? =some (.int .u64 (nuG B k))):=nuF_at (nuG B) k hlt
      have hbB:=nuG_bd B k
      have hbA:=nuG_bd A k
      rw[← hg2 k (by omega)] at hbA
      have Hg:=hide hg
      have Hg2:=hide hg2
      clear hg hg2
      go_wp2_with (first|(refine wl_box S rfl rfl rfl ?_;clear S;intro b W S)|(refine wl_new (ty:=58) S rfl rfl zeroFe ?_;clear S;intro b W S)|(refine g_load (ty:=58) rfl ?_;refine wl_load (ty:=58) S rfl rfl rfl (by repeat constructor) aggFe (by rfl) ?_)|(refine g_store (ty:=58) rfl ?_;refine wl_store (ty:=58) S rfl rfl rfl rfl (by repeat(first|exact foc_hd|apply foc_tl)) aggFe rfl (by rfl) (w4_one _ _ _ _) ?_;clear S;intro W S)|(refine g_load (ty:=24) rfl ?_;refine wl_loadE (ty:=24) S rfl rfl rfl (by repeat constructor) (by rfl) one64 ?_)|(refine g_store (ty:=24) rfl ?_;refine wl_storeE (ty:=24) S rfl rfl rfl rfl (by rfl) (by repeat(first|exact foc_hd|apply foc_tl)) one64 (by simp) rfl ?_;clear S;intro W S;simp only[Act.eval,zQ] at S))
      refine Calm.region0 S 9 (by kernel_rfl) (by kernel_rfl) (fun S=> ?_)
      iterate 3 (first|(refine wn_move rfl (by rfl) (Or.inl rfl) ?_;simp only[Act.put,Act.eval,zQ])|(apply wn_val rfl (by rfl);(intro w;go_simp;rfl);simp only[Act.put,Act.eval,zQ]))
      refine Calm.gn_load (ty:=24) rfl ?_
      refine wn_loadE (ty:=24) (b:=bA) S rfl (by rfl) rfl rfl (by repeat constructor) Hx.out one64 ?_
      simp only[Act.put,Act.eval,zQ]
      iterate 2 (first|(refine wn_move rfl (by rfl) (Or.inl rfl) ?_;simp only[Act.put,Act.eval,zQ])|(apply wn_val rfl (by rfl);(intro w;go_simp;rfl);simp only[Act.put,Act.eval,zQ]))
      refine Calm.gn_load (ty:=24) rfl ?_
      refine wn_loadE (ty:=24) (b:=bB) S rfl (by rfl) rfl rfl (by repeat constructor) Hy.out one64 ?_
      simp only[Act.put,Act.eval,zQ]
      repeat((apply wn_val rfl (by rfl);(intro w;go_simp;rfl);simp only[Act.put,Act.eval,zQ]))
      (refine wn_nil ?_;clear S;intro W S;simp only[Act.put,List.setIfInBounds_toArray,List.set_cons_zero,List.set_cons_succ,List.drop_succ_cons,List.drop_zero,List.drop_nil])
      rw[show IntKind.u64.wrap (g k+nuG B k)=g k+nuG B k by rw[IntKind.wrap_u64];omega]
      go_wp2_with (first|(refine g_store (ty:=24) rfl ?_;refine wl_storeE (ty:=24) (b:=bA) (cs:=nuF (upd g k (g k+nuG B k))) S rfl rfl rfl rfl (nuF_set _ _ _) (by repeat(first|exact foc_hd|apply foc_tl)) one64 (by rw[nuF_size];omega) rfl ?_;clear S;intro W S))
      go_roundw
      case rel =>
        refine⟨k+1,_,by omega,by go_num,fun j hj=> ?_,fun j hj=> ?_,S⟩
        · by_cases e : j = k
          · subst e;rw[upd_eq,Hg2.out j (by omega)]
          · rw[upd_ne _ _ _ e];exact Hg.out j (by omega)
        · rw[upd_ne _ _ _ (by omega)];exact Hg2.out j (by omega)
      case measure=>simp[intOf];omega
    · have hk' : k = 8 := by omega
      subst hk'
      rw[nuF_ext g (fun j=>nuG A j+nuG B j) (fun j hj=>hg j hj)] at S
      go_wp2_with ((refine g_load (ty:=70) rfl ?_;refine wl_load (ty:=70) S rfl rfl rfl (by repeat constructor) aggNu (by rw[nuF_size]) ?_))
      refine(HR.out _).mono ?_
      rintro e W1 ⟨rfl,hb⟩
      have S:=S.call hb
      clear hb
      go_wp2_with (first|(refine g_store (ty:=70) rfl ?_;refine wl_store (ty:=70) S rfl rfl rfl rfl (by repeat(first|exact foc_hd|apply foc_tl)) aggNu (by unfold nuC;rw[nuF_size]) (by rw[nuF_size]) (nuF_one _) ?_;clear S;intro W S))
      refine Calm.ret_cell S (by rfl) (by rfl) (by repeat constructor) aggNu (by unfold nuC;rw[nuF_size]) (by rfl) ?_
      exact⟨rfl,S.below⟩
structure Bo2 (p h g:Nat→Int) (c:Int) (k:Nat):Prop where
  lo:∀ j,j<k→0≤g j∧g j<4294967296
  c0:0≤c
  c1:c≤1
  eq:val g k - c*4294967296 ^ k=val h k - val p k
theorem Bo2.step {p h g:Nat→Int} {c:Int} {k:Nat} (H:Bo2 p h g c k) (hh:0≤h k∧h k<4294967296) (hp:0≤p k∧p k<4294967296):Bo2 p h (upd g k ((4294967296+h k - p k - c)%4294967296)) (1 - (4294967296+h k - p k - c) / 4294967296) (k+1):=by
  have hc0:=H.c0
  have hc1:=H.c1
  refine⟨fun j hj=> ?_,by omega,by omega,?_⟩
  · by_cases e : j = k
    · subst e;rw[upd_eq];omega
    · rw[upd_ne _ _ _ e];exact H.lo j (by omega)
  · have he := H.eq
    simp only[val]
    rw[upd_eq,val_upd,Int.pow_succ]
    have hd:=Int.emod_add_mul_ediv (4294967296+h k - p k - c) 4294967296
    generalize(4294967296+h k - p k - c)%4294967296=r at*
    generalize(4294967296+h k - p k - c) / 4294967296=q at*
    have e1:h k=r+4294967296*q - 4294967296+p k+c:=by omega
    rw[e1]
    have e2:val h k=val g k - c*4294967296 ^ k+val p k:=by omega
    rw[e2]
    grind
set_option maxHeartbeats 1000000 in
theorem RNeg_c (A : Int) (hA : 0 ≤ A ∧ A < pr) (w : World) : Calls Tryz.prog 79 #[.agg (nuC A)] w fun e w' => e = .returned (.agg (nuC (-A % pr))) ∧ Below w.heap.size w w' := by
  have S:=Calm.St.start w
  go_enter Tryz.func79,Tryz.ntmps79
  go_wp2_with (first|(refine wl_box S rfl rfl rfl ?_;clear S;intro b W S)|(refine wl_new (ty:=70) S rfl rfl zeroNu ?_;clear S;intro b W S))
  rename_i bA _ bR _ K hK
  go_loopw [4,5] (fun cc i Wr=>∃(k:Nat) (g:Nat→Int) (c:Int),k≤8∧i= .int .i64 (k:Int)∧cc= .int .u64 c∧Bo2 (nuG A) pd g c k∧Calm.St w Wr [⟨b,nuF g,70⟩,⟨bR,nuF (fun _=>0),70⟩,⟨bA,nuC A,70⟩]) (fun _ i _=>8 - (intOf i).toNat)
  case atStart=>exact⟨0,_,0,by omega,rfl,rfl,⟨fun j h=>by omega,by omega,by omega,by simp[val]⟩,S⟩
  case round =>
    clear S
    obtain⟨k,g,c,hk,rfl,rfl,hC,S⟩:=hrel
    by_cases hlt:k<8
    · have g5 : (k : Int) < 8 := by omega
      have Hx:Hid ((nuC A)[k]? =some (.int .u64 (nuG A k))):=nuF_at (nuG A) k hlt
      have Hp:=hide (fun w=>prime_c k hlt w)
      have hbA:=nuG_bd A k
      have hpd:=pd_bd k
      have hc0:=hC.c0
      have hc1:=hC.c1
      go_wp2_with (first|(refine wl_box S rfl rfl rfl ?_;clear S;intro b W S)|(refine wl_new (ty:=58) S rfl rfl zeroFe ?_;clear S;intro b W S)|(refine g_load (ty:=58) rfl ?_;refine wl_load (ty:=58) S rfl rfl rfl (by repeat constructor) aggFe (by rfl) ?_)|(refine g_store (ty:=58) rfl ?_;refine wl_store (ty:=58) S rfl rfl rfl rfl (by repeat(first|exact foc_hd|apply foc_tl)) aggFe rfl (by rfl) (w4_one _ _ _ _) ?_;clear S;intro W S)|(refine g_load (ty:=24) rfl ?_;refine wl_loadE (ty:=24) S rfl rfl rfl (by repeat constructor) (by rfl) one64 ?_)|(refine g_store (ty:=24) rfl ?_;refine wl_storeE (ty:=24) S rfl rfl rfl rfl (by rfl) (by repeat(first|exact foc_hd|apply foc_tl)) one64 (by simp) rfl ?_;clear S;intro W S;simp only[Act.eval,zQ] at S))
      refine Calm.region0 S 9 (by kernel_rfl) (by kernel_rfl) (fun S=> ?_)
      iterate 5 (first|(refine wn_move rfl (by rfl) (Or.inl rfl) ?_;simp only[Act.put,Act.eval,zQ])|(apply wn_call (f:=99) rfl (by rfl) rfl;(intro w;go_simp;rfl);(intro w;exact Hp.out w);simp only[Act.put,Act.eval,zQ])|(apply wn_val rfl (by rfl);(intro w;go_simp;rfl);simp only[Act.put,Act.eval,zQ]))
      refine Calm.gn_load (ty:=24) rfl ?_
      refine wn_loadE (ty:=24) (b:=bA) S rfl (by rfl) rfl rfl (by repeat constructor) Hx.out one64 ?_
      simp only[Act.put,Act.eval,zQ]
      repeat(first|(refine wn_move rfl (by rfl) (Or.inl rfl) ?_;simp only[Act.put,Act.eval,zQ])|(apply wn_val rfl (by rfl);(intro w;go_simp;rfl);simp only[Act.put,Act.eval,zQ]))
      (refine wn_nil ?_;clear S;intro W S;simp only[Act.put,List.setIfInBounds_toArray,List.set_cons_zero,List.set_cons_succ,List.drop_succ_cons,List.drop_zero,List.drop_nil])
      go_wp2_with (first|(refine g_store (ty:=24) rfl ?_;refine wl_storeE (ty:=24) (b:=b) (cs:=nuF (upd g k ((4294967296+pd k - nuG A k - c)%4294967296))) S rfl rfl rfl rfl (nuF_set _ _ _) (by repeat(first|exact foc_hd|apply foc_tl)) one64 (by rw[nuF_size];omega) rfl ?_;clear S;intro W S))
      go_roundw
      case rel=>exact⟨k+1,_,_,by omega,by go_num,rfl,hC.step hpd hbA,S⟩
      case measure=>simp[intOf];omega
    · have hk' : k = 8 := by omega
      subst hk'
      have HR : Hid (∀ w, Calls Tryz.prog 91 #[.agg (nuF g)] w fun e w' => e = .returned (.agg (nuC (-A % pr))) ∧ Below w.heap.size w w') := by
        intro w
        have h:=Reduce_c g (fun j hj=>by have:=hC.lo j hj;omega) w
        have h1:=val_bd g 8 hC.lo
        have h2:=hC.eq
        have h3:=hC.c0
        have h4:=hC.c1
        rw[val_pd,val_nu A (by unfold Ok;unfold pr at hA;omega)] at h2
        rw[b8] at h1 h2
        have h5:val g 8=pr - A:=by
          have:c=0∨c=1:=by omega
          rcases this with rfl|rfl<;>omega
        rw[h5,show(pr - A)%pr= -A%pr by unfold pr;omega] at h
        exact h
      go_wp2_with ((refine g_load (ty:=70) rfl ?_;refine wl_load (ty:=70) S rfl rfl rfl (by repeat constructor) aggNu (by rw[nuF_size]) ?_))
      refine(HR.out _).mono ?_
      rintro e W1 ⟨rfl,hb⟩
      have S:=S.call hb
      clear hb
      go_wp2_with (first|(refine g_store (ty:=70) rfl ?_;refine wl_store (ty:=70) S rfl rfl rfl rfl (by repeat(first|exact foc_hd|apply foc_tl)) aggNu (by unfold nuC;rw[nuF_size]) (by rw[nuF_size]) (nuF_one _) ?_;clear S;intro W S))
      refine Calm.ret_cell S (by rfl) (by rfl) (by repeat constructor) aggNu (by unfold nuC;rw[nuF_size]) (by rfl) ?_
      exact⟨rfl,S.below⟩
theorem nuC_size (n:Int):(nuC n).size=8:=nuF_size _
set_option maxHeartbeats 1000000 in
theorem RSub_c (A B:Int) (hA:Ok A) (hB:0≤B∧B<pr) (w:World):Calls Tryz.prog 73 #[.agg (nuC A),.agg (nuC B)] w fun e w'=>e= .returned (.agg (nuC ((A+ -B%pr)%pr)))∧Below w.heap.size w w':=by
  have S:=Calm.St.start w
  go_enter Tryz.func73,Tryz.ntmps73
  go_wp2_with (first|(refine wl_box S rfl rfl rfl ?_;clear S;intro b W S)|(refine wl_new (ty:=70) S rfl rfl zeroNu ?_;clear S;intro b W S))
  refine Calm.region0 S 4 (by kernel_rfl) (by kernel_rfl) (fun S=> ?_)
  repeat(first|(refine Calm.gn_load (ty:=70) rfl ?_;refine wn_load (ty:=70) S rfl (by rfl) rfl rfl (by repeat constructor) aggNu (by rw[nuC_size]) ?_;simp only[Act.put,Act.eval,zQ])|(apply wn_call (f:=79) rfl (by rfl) rfl;(intro w;go_simp;rfl);(intro w;exact RNeg_c _ hB w);simp only[Act.put,Act.eval,zQ])|(apply wn_call (f:=92) rfl (by rfl) rfl;(intro w;go_simp;rfl);(intro w;exact RAdd_c _ _ hA (ok_mod _) w);simp only[Act.put,Act.eval,zQ]))
  (refine wn_nil ?_;clear S;intro W S;simp only[Act.put,List.setIfInBounds_toArray,List.set_cons_zero,List.set_cons_succ,List.drop_succ_cons,List.drop_zero,List.drop_nil])
  go_wp2_with (first|(refine g_store (ty:=70) rfl ?_;refine wl_store (ty:=70) S rfl rfl rfl rfl (by repeat(first|exact foc_hd|apply foc_tl)) aggNu (by rw[nuC_size]) (by rw[nuF_size]) (nuF_one _) ?_;clear S;intro W S))
  refine Calm.ret_cell S (by rfl) (by rfl) (by repeat constructor) aggNu (by rw[nuC_size]) (by rfl) ?_
  exact⟨rfl,S.below⟩
end Go.Proofs.YtdebkddhpogkgaaGreat

set_option linter.unusedSimpArgs false
namespace Go.Proofs.YtdebkddhpogkgaaGreat
open Go.RowKit
def w4F (x:Nat→Int):Array Value:= #[.int .u64 (x 0),.int .u64 (x 1),.int .u64 (x 2),.int .u64 (x 3)]
def tw (n:Int) (k q:Nat):Int:=n / 18446744073709551616 ^ q%18446744073709551616 / 4294967296 ^ (k - 2*q)
theorem tw_0 (n:Int):w4F (tw n 0)=feC n:=by
  unfold w4F tw feC
  simp
end Go.Proofs.YtdebkddhpogkgaaGreat

set_option linter.unusedSimpArgs false
namespace Go.Proofs.YtdebkddhpogkgaaGreat
open Go.RowKit Go.Calm
theorem feC_small (n:Int) (h0:0≤n) (h1:n<18446744073709551616):feC n= #[.int .u64 n,.int .u64 0,.int .u64 0,.int .u64 0]:=by
  unfold feC
  rw[show n%18446744073709551616=n by omega,show n / 18446744073709551616%18446744073709551616=0 by omega,show n / 340282366920938463463374607431768211456%18446744073709551616=0 by omega,show n / 6277101735386680763835789423207666416102355444464034512896%18446744073709551616=0 by omega]
set_option maxHeartbeats 1000000 in
theorem ROf_c (n:Int) (h0:0≤n) (h1:n<18446744073709551616) (w:World):Calls Tryz.prog 74 #[.int .u64 n] w fun e w'=>e= .returned (.agg (nuC n))∧Below w.heap.size w w':=by
  have S:=Calm.St.start w
  have HW:Hid (∀ w,Calls Tryz.prog 93 #[.agg #[.int .u64 n,.int .u64 0,.int .u64 0,.int .u64 0]] w fun e w'=>e= .returned (.agg (nuC n))∧Below w.heap.size w w'):=by
    intro w
    have:=Words_c n (by unfold Ok;omega) w
    rw[feC_small n h0 h1,show n%pr=n by unfold pr;omega] at this
    exact this
  go_enter Tryz.func74,Tryz.ntmps74
  go_wp2_with ((refine wl_new (ty:=70) S rfl rfl zeroNu ?_;clear S;intro b W S))
  refine(HW.out _).mono ?_
  rintro e W1 ⟨rfl,hb⟩
  have S:=S.call hb
  clear hb
  go_wp2_with (first|(refine g_store (ty:=70) rfl ?_;refine wl_store (ty:=70) S rfl rfl rfl rfl (by repeat(first|exact foc_hd|apply foc_tl)) aggNu (by rw[nuC_size]) (by rw[nuF_size]) (nuF_one _) ?_;clear S;intro W S))
  refine Calm.ret_cell S (by rfl) (by rfl) (by repeat constructor) aggNu (by rw[nuC_size]) (by rfl) ?_
  exact⟨rfl,S.below⟩
theorem arrNu:Calm.ArrT Tryz.prog 70 8 .u64:=⟨⟨_,Tryz.underlying70,Tryz.underlying24,by kernel_rfl⟩,by kernel_rfl⟩
def nuL (n:Int):List Int:=(List.range 8).map (nuG n)
theorem nuC_list (n:Int):nuC n=((nuL n).map (Value.int .u64)).toArray:=by unfold nuC nuF nuL;rw[List.map_map];rfl
theorem nuL_len (n:Int):(nuL n).length=8:=by simp[nuL]
theorem nuL_inj {X Y:Int} (hX:Ok X) (hY:Ok Y):(nuL X == nuL Y)=decide (X=Y):=by
  rw[Bool.eq_iff_iff,beq_iff_eq,decide_eq_true_iff]
  constructor
  · intro h
    rw[← val_nu X hX,← val_nu Y hY]
    refine val_ext _ _ _ fun j hj=> ?_
    have h2:=congrArg (fun l:List Int=>l[j]?) h
    simpa[nuL,hj] using h2
  · intro h;rw[h]
section
variable {ops:Array Oper} {rest:List Oper} {o:Oper} {a:Act} {W:World} {Q:Exit→Act→World→Prop}
end
theorem nu0 (n:Int):nuG n 0%2=n%2:=by unfold nuG;simp
set_option maxHeartbeats 1000000 in
theorem ROdd_c (n:Int) (w:World):Calls Tryz.prog 76 #[.agg (nuC n)] w fun e w'=>e= .returned (.bool (decide (n%2=1)))∧Below w.heap.size w w':=by
  have S:=Calm.St.start w
  rw[← nu0 n]
  have Hx:Hid ((nuC n)[0]? =some (.int .u64 (nuG n 0))):=nuF_at (nuG n) 0 (by omega)
  have hb:=nuG_bd n 0
  go_enter Tryz.func76,Tryz.ntmps76
  go_wp2_with (first|(refine wl_box S rfl rfl rfl ?_;clear S;intro b W S)|(refine g_load (ty:=24) rfl ?_;refine wl_loadE (ty:=24) S rfl rfl rfl (by repeat constructor) Hx.out one64 ?_))
  go_ret
  exact⟨rfl,S.below⟩
def absR (n:Int):Int:=if n%2=1 then -n%pr else n
set_option maxHeartbeats 1000000 in
theorem RAbs_c (n:Int) (hn:0≤n∧n<pr) (w:World):Calls Tryz.prog 81 #[.agg (nuC n)] w fun e w'=>e= .returned (.agg (nuC (absR n)))∧Below w.heap.size w w':=by
  have S:=Calm.St.start w
  unfold absR
  go_enter Tryz.func81,Tryz.ntmps81
  go_wp2_with (first|(refine wl_box S rfl rfl rfl ?_;clear S;intro b W S)|(refine wl_new (ty:=70) S rfl rfl zeroNu ?_;clear S;intro b W S)|(refine g_load (ty:=70) rfl ?_;refine wl_load (ty:=70) S rfl rfl rfl (by repeat constructor) aggNu (by rw[nuC_size]) ?_))
  refine(ROdd_c n _).mono ?_
  rintro e W1 ⟨he,hb⟩
  by_cases ho:n%2=1
  · rw [decide_eq_true ho] at he
    subst he
    have S:=S.call hb
    clear hb
    go_wp2_with (first|(refine g_load (ty:=70) rfl ?_;refine wl_load (ty:=70) S rfl rfl rfl (by repeat constructor) aggNu (by rw[nuC_size]) ?_))
    refine(RNeg_c n hn _).mono ?_
    rintro e W1 ⟨rfl,hb⟩
    have S:=S.call hb
    clear hb
    go_wp2_with (first|(refine g_store (ty:=70) rfl ?_;refine wl_store (ty:=70) S rfl rfl rfl rfl (by repeat(first|exact foc_hd|apply foc_tl)) aggNu (by rw[nuC_size]) (by rw[nuF_size]) (nuF_one _) ?_;clear S;intro W S))
    refine Calm.ret_cell S (by rfl) (by rfl) (by repeat constructor) aggNu (by rw[nuC_size]) (by rfl) ?_
    exact⟨rfl,S.below⟩
  · rw [decide_eq_false ho] at he
    subst he
    have S:=S.call hb
    clear hb
    go_wp2_with (first|(refine g_load (ty:=70) rfl ?_;refine wl_load (ty:=70) S rfl rfl rfl (by repeat constructor) aggNu (by rw[nuC_size]) ?_)|(refine g_store (ty:=70) rfl ?_;refine wl_store (ty:=70) S rfl rfl rfl rfl (by repeat(first|exact foc_hd|apply foc_tl)) aggNu (by rw[nuC_size]) (by rw[nuF_size]) (nuF_one _) ?_;clear S;intro W S))
    refine Calm.ret_cell S (by rfl) (by rfl) (by repeat constructor) aggNu (by rw[nuC_size]) (by rfl) ?_
    exact⟨rfl,S.below⟩
end Go.Proofs.YtdebkddhpogkgaaGreat

set_option linter.unusedSimpArgs false
namespace Go.Proofs.YtdebkddhpogkgaaGreat
open Go.RowKit Go.Calm
def nxF (g:Nat→Int):Array Value:=((List.range 16).map fun j=>Value.int .u64 (g j)).toArray
theorem nxF_size (g:Nat→Int):(nxF g).size=16:=by simp[nxF]
theorem nxF_at (g:Nat→Int) (k:Nat) (hk:k<16):(nxF g)[k]? =some (.int .u64 (g k)):=by simp[nxF,hk]
theorem nxF_set (g:Nat→Int) (k:Nat) (v:Int):nxF (upd g k v)=(nxF g).setIfInBounds k (.int .u64 v):=by
  unfold nxF
  apply Array.ext
  · simp
  · intro i h1 h2
    rw[Array.getElem_setIfInBounds (by simpa using h1)]
    simp only[List.getElem_toArray,List.getElem_map,List.getElem_range]
    by_cases h:k=i
    · subst h;simp[upd]
    · rw[if_neg h,upd_ne _ _ _ (fun e=>h e.symm)]
theorem zeroNx:(Tryz.prog.info? 113).bind (·.zero)=some (.agg (nxF fun _=>0)):=by kernel_rfl
theorem val_updG (h:Nat→Int) (j:Nat) (v:Int):∀ n,j<n→val (upd h j v) n=val h n+(v - h j)*4294967296 ^ j
  |0,hj=>by omega
  | n + 1, hj => by
    simp only[val]
    by_cases e:j=n
    · subst e;rw[val_upd,upd_eq,Int.sub_mul];omega
    · rw[val_updG h j v n (by omega),upd_ne _ _ _ (fun h=>e h.symm)];omega
theorem val_split (h:Nat→Int):∀ m,val h (8+m)=val h 8+4294967296 ^ 8*val (fun j=>h (j+8)) m
  |0=>by simp[val]
  | m + 1 => by
    rw[show 8+(m+1)=(8+m)+1 from rfl]
    simp only[val]
    have ih:=val_split h m
    simp only[val] at ih
    rw[ih,Int.pow_add,show 8+m=m+8 by omega]
    grind
theorem val_zero (n:Nat):val (fun _=>0) n=0:=by
  induction n with
  |zero=>rfl
  |succ n ih=>simp[val,ih]
theorem val_fold (h:Nat→Int):val (fun j=>h j+38*h (j+8)) 8%pr=val h 16%pr:=by
  have e:val (fun j=>h j+38*h (j+8)) 8=val h 8+38*val (fun j=>h (j+8)) 8:=by
    have e1:val (fun j=>38*h (j+8)) 8=38*val (fun j=>h (j+8)) 8:=by rw[val8,val8];omega
    rw[val_add h (fun j=>38*h (j+8)),e1]
  rw[e,show val h 16=val h (8+8) from rfl,val_split h 8,b8]
  unfold pr
  omega
structure Row (a b h g:Nat→Int) (i:Nat) (c:Int) (k:Nat):Prop where
  bd:∀ j,0≤g j∧g j<4294967296
  hi:∀ j,i+8≤j→g j=0
  c0:0≤c
  c1:c<4294967296
  eq:val g 16+c*4294967296 ^ (i+k)=val h 16+a i*4294967296 ^ i*val b k
theorem Row.step {a b h g:Nat→Int} {i:Nat} {c:Int} {k:Nat} (R:Row a b h g i c k) (hi:i<8) (hk:k<8) (t:Int) (ht:t=c+g (i+k)+a i*b k) (h0:0≤t) (h1:t<18446744073709551616):Row a b h (upd g (i+k) (t%4294967296)) i (t / 4294967296) (k+1):=by
  refine⟨fun j=> ?_,fun j hj=> ?_,by omega,by omega,?_⟩
  · by_cases e : j = i + k
    · subst e;rw[upd_eq];omega
    · rw[upd_ne _ _ _ e];exact R.bd j
  · rw[upd_ne _ _ _ (by omega)];exact R.hi j hj
  · have he := R.eq
    rw[val_updG _ _ _ 16 (by omega),show val b (k+1)=val b k+b k*4294967296 ^ k from rfl]
    have hd:=Int.emod_add_mul_ediv t 4294967296
    generalize t%4294967296=r at*
    generalize t / 4294967296=q at*
    rw[show i+(k+1)=i+k+1 from rfl,Int.pow_succ]
    have e1:val g 16=val h 16+a i*4294967296 ^ i*val b k - c*4294967296 ^ (i+k):=by omega
    have e2:r=c+g (i+k)+a i*b k - 4294967296*q:=by omega
    rw[e1,e2,Int.pow_add]
    grind
theorem prod_bd (x y:Int) (hx:0≤x∧x<4294967296) (hy:0≤y∧y<4294967296):0≤x*y∧x*y≤18446744065119617025:=by
  refine⟨Int.mul_nonneg hx.1 hy.1,?_⟩
  have:=Int.mul_le_mul (show x≤4294967295 by omega) (show y≤4294967295 by omega) hy.1 (by omega)
  omega
set_option maxHeartbeats 2000000 in
theorem RMul_c (A B : Int) (hA : Ok A) (hB : Ok B) (w : World) : Calls Tryz.prog 72 #[.agg (nuC A), .agg (nuC B)] w fun e w' => e = .returned (.agg (nuC (A * B % pr))) ∧ Below w.heap.size w w' := by
  have S:=Calm.St.start w
  go_enter Tryz.func72,Tryz.ntmps72
  go_wp2_with (first|(refine wl_box S rfl rfl rfl ?_;clear S;intro b W S)|(refine wl_new (ty:=70) S rfl rfl zeroNu ?_;clear S;intro b W S)|(refine wl_new (ty:=113) S rfl rfl zeroNx ?_;clear S;intro b W S))
  rename_i bA _ bB _ bR _ K hK
  go_loopw [6] (fun ii Wr=>∃(i:Nat) (h:Nat→Int),i≤8∧ii= .int .i64 (i:Int)∧(∀ j,0≤h j∧h j<4294967296)∧(∀ j,i+8≤j→h j=0)∧val h 16=val (nuG A) i*B∧Calm.St w Wr [⟨b,nxF h,113⟩,⟨bR,nuF (fun _=>0),70⟩,⟨bB,nuC B,70⟩,⟨bA,nuC A,70⟩]) (fun ii _=>8 - (intOf ii).toNat)
  case atStart=>exact⟨0,_,by omega,rfl,fun j=>by omega,fun _ _=>rfl,by rw[val_zero];simp[val],S⟩
  case round =>
    clear S
    obtain⟨i,h,hi,rfl,hh,hz,hv,S⟩:=hrel
    by_cases hlt:i<8
    · have hlt' : (i : Int) < 8 := by omega
      have HZ:=hide hz
      have HV:=hide hv
      have HH:=hide hh
      clear hz hv hh
      go_wp2_with (first|(refine wl_box S rfl rfl rfl ?_;clear S;intro b W S)|(refine wl_new (ty:=58) S rfl rfl zeroFe ?_;clear S;intro b W S)|(refine g_load (ty:=58) rfl ?_;refine wl_load (ty:=58) S rfl rfl rfl (by repeat constructor) aggFe (by rfl) ?_)|(refine g_store (ty:=58) rfl ?_;refine wl_store (ty:=58) S rfl rfl rfl rfl (by repeat(first|exact foc_hd|apply foc_tl)) aggFe rfl (by rfl) (w4_one _ _ _ _) ?_;clear S;intro W S)|(refine g_load (ty:=24) rfl ?_;refine wl_loadE (ty:=24) S rfl rfl rfl (by repeat constructor) (by rfl) one64 ?_)|(refine g_store (ty:=24) rfl ?_;refine wl_storeE (ty:=24) S rfl rfl rfl rfl (by rfl) (by repeat(first|exact foc_hd|apply foc_tl)) one64 (by simp) rfl ?_;clear S;intro W S;simp only[Act.eval,zQ] at S))
      rename_i K2 hK2
      go_loopw [7,8] (fun cc kk Wr=>∃(k:Nat) (g:Nat→Int) (c:Int),k≤8∧kk= .int .i64 (k:Int)∧cc= .int .u64 c∧Row (nuG A) (nuG B) h g i c k∧Calm.St w Wr [⟨b,nxF g,113⟩,⟨bR,nuF (fun _=>0),70⟩,⟨bB,nuC B,70⟩,⟨bA,nuC A,70⟩]) (fun _ kk _=>8 - (intOf kk).toNat)
      case atStart=>exact⟨0,h,0,by omega,rfl,rfl,⟨HH.out,HZ.out,by omega,by omega,by simp[val]⟩,S⟩
      case round =>
        clear S
        obtain⟨k,g,c,hk,rfl,rfl,hR,S⟩:=hrel
        by_cases hk8:k<8
        · have hk8' : (k : Int) < 8 := by omega
          obtain⟨s,hs⟩:∃ s:Nat,s=i+k:=⟨_,rfl⟩
          have g1:IntKind.i64.wrap ((i:Int)+(k:Int))=(s:Int):=by rw[wrap_small _ (by omega) (by omega)];omega
          have g2:(s:Int)<16:=by omega
          have Hx:=hide (nxF_at g s (by omega))
          have Ha:Hid ((nuC A)[i]? =some (.int .u64 (nuG A i))):=nuF_at (nuG A) i hlt
          have Hb:Hid ((nuC B)[k]? =some (.int .u64 (nuG B k))):=nuF_at (nuG B) k hk8
          have ba:=nuG_bd A i
          have bb:=nuG_bd B k
          have hp:=prod_bd _ _ ba bb
          have hc0:=hR.c0
          have hc1:=hR.c1
          have hgb:=hR.bd s
          have e1:IntKind.u64.wrap (nuG A i*nuG B k)=nuG A i*nuG B k:=by rw[IntKind.wrap_u64];omega
          have e2:IntKind.u64.wrap (c+g s)=c+g s:=by rw[IntKind.wrap_u64];omega
          have e3:IntKind.u64.wrap (c+g s+nuG A i*nuG B k)=c+g s+nuG A i*nuG B k:=by rw[IntKind.wrap_u64];omega
          obtain⟨t,ht⟩:∃ t,t=c+g s+nuG A i*nuG B k:=⟨_,rfl⟩
          have ht0:0≤t:=by omega
          have ht1:t<18446744073709551616:=by omega
          rw[← ht] at e3
          have Hs:=hide hs
          have Ht:=hide ht
          clear hs
          go_wp2_with (first|(refine wl_box S rfl rfl rfl ?_;clear S;intro b W S)|(refine wl_new (ty:=58) S rfl rfl zeroFe ?_;clear S;intro b W S)|(refine g_load (ty:=58) rfl ?_;refine wl_load (ty:=58) S rfl rfl rfl (by repeat constructor) aggFe (by rfl) ?_)|(refine g_store (ty:=58) rfl ?_;refine wl_store (ty:=58) S rfl rfl rfl rfl (by repeat(first|exact foc_hd|apply foc_tl)) aggFe rfl (by rfl) (w4_one _ _ _ _) ?_;clear S;intro W S)|(refine g_load (ty:=24) rfl ?_;refine wl_loadE (ty:=24) S rfl rfl rfl (by repeat constructor) (by rfl) one64 ?_)|(refine g_store (ty:=24) rfl ?_;refine wl_storeE (ty:=24) S rfl rfl rfl rfl (by rfl) (by repeat(first|exact foc_hd|apply foc_tl)) one64 (by simp) rfl ?_;clear S;intro W S;simp only[Act.eval,zQ] at S))
          refine Calm.region0 S 15 (by kernel_rfl) (by kernel_rfl) (fun S=> ?_)
          iterate 5 (first|(refine wn_move rfl (by rfl) (Or.inl rfl) ?_;simp only[Act.put,Act.eval,zQ])|(apply wn_val rfl (by rfl);(intro w;go_simp;rfl);simp only[Act.put,Act.eval,zQ]))
          refine Calm.gn_load (ty:=24) rfl ?_
          refine wn_loadE (ty:=24) (b:=b) S rfl (by rfl) rfl rfl (by repeat constructor) Hx.out one64 ?_
          simp only[Act.put,Act.eval,zQ]
          iterate 3 (first|(refine wn_move rfl (by rfl) (Or.inl rfl) ?_;simp only[Act.put,Act.eval,zQ])|(apply wn_val rfl (by rfl);(intro w;go_simp;rfl);simp only[Act.put,Act.eval,zQ]))
          refine Calm.gn_load (ty:=24) rfl ?_
          refine wn_loadE (ty:=24) (b:=bA) S rfl (by rfl) rfl rfl (by repeat constructor) Ha.out one64 ?_
          simp only[Act.put,Act.eval,zQ]
          iterate 2 (first|(refine wn_move rfl (by rfl) (Or.inl rfl) ?_;simp only[Act.put,Act.eval,zQ])|(apply wn_val rfl (by rfl);(intro w;go_simp;rfl);simp only[Act.put,Act.eval,zQ]))
          refine Calm.gn_load (ty:=24) rfl ?_
          refine wn_loadE (ty:=24) (b:=bB) S rfl (by rfl) rfl rfl (by repeat constructor) Hb.out one64 ?_
          simp only[Act.put,Act.eval,zQ]
          repeat((apply wn_val rfl (by rfl);(intro w;go_simp;rfl);simp only[Act.put,Act.eval,zQ]))
          (refine wn_nil ?_;clear S;intro W S;simp only[Act.put,List.setIfInBounds_toArray,List.set_cons_zero,List.set_cons_succ,List.drop_succ_cons,List.drop_zero,List.drop_nil])
          try rw[e2]
          try rw[e1]
          try rw[e3]
          try rw[← ht]
          clear ht e3
          go_wp2_with (first|(refine g_store (ty:=24) rfl ?_;refine wl_storeE (ty:=24) (b:=b) (cs:=nxF (upd g s (t%4294967296))) S rfl rfl rfl rfl (nxF_set _ _ _) (by repeat(first|exact foc_hd|apply foc_tl)) one64 (by rw[nxF_size];omega) rfl ?_;clear S;intro W S))
          go_roundw
          case rel=>
            refine⟨k+1,_,_,by omega,by go_num,rfl,?_,S⟩
            have hs:=Hs.out
            rw[hs]
            exact hR.step hlt hk8 t (by rw[Ht.out,hs]) ht0 ht1
          case measure=>simp[intOf];omega
        · have hk' : k = 8 := by omega
          subst hk'
          obtain⟨s,hs⟩:∃ s:Nat,s=i+8:=⟨_,rfl⟩
          have g1:IntKind.i64.wrap ((i:Int)+8)=(s:Int):=by rw[wrap_small _ (by omega) (by omega)];omega
          have g2:(s:Int)<16:=by omega
          have Hs:=hide hs
          clear hs
          have hs16:s<16:=by omega
          go_wp2_with (first|(refine g_store (ty:=24) rfl ?_;refine wl_storeE (ty:=24) (b:=b) (cs:=nxF (upd g s c)) S rfl rfl rfl rfl (nxF_set _ _ _) (by repeat(first|exact foc_hd|apply foc_tl)) one64 (by rw[nxF_size];omega) rfl ?_;clear S;intro W S))
          go_roundw
          case rel =>
            have hs:=Hs.out
            have hc0:=hR.c0
            have hc1:=hR.c1
            refine⟨i+1,_,by omega,by go_num,fun j=> ?_,fun j hj=> ?_,?_,S⟩
            · by_cases e : j = s
              · subst e;rw[upd_eq];omega
              · rw[upd_ne _ _ _ e];exact hR.bd j
            · rw[upd_ne _ _ _ (by omega)];exact hR.hi j (by omega)
            · have he := hR.eq
              rw[val_updG _ _ _ 16 hs16,hR.hi s (by omega),hs,show val (nuG A) (i+1)=val (nuG A) i+nuG A i*4294967296 ^ i from rfl]
              rw[val_nu B hB,HV.out] at he
              rw[Int.add_mul,Int.sub_zero]
              omega
          case measure=>simp[intOf];omega
    · have hi' : i = 8 := by omega
      subst hi'
      rw[val_nu A hA] at hv
      have HR:Hid (∀ w,Calls Tryz.prog 91 #[.agg (nuF fun j=>h j+38*h (j+8))] w fun e w'=>e= .returned (.agg (nuC (A*B%pr)))∧Below w.heap.size w w'):=by
        intro w
        have:=Reduce_c (fun j=>h j+38*h (j+8)) (fun j _=>by have:=hh j;have:=hh (j+8);omega) w
        rw[val_fold,hv] at this
        exact this
      have HH:=hide hh
      clear hv hz hh
      go_wp2_with (first|(refine wl_new (ty:=70) S rfl rfl zeroNu ?_;clear S;intro b5 W S))
      rename_i K2 hK2
      go_loopw [10] (fun ii Wr=>∃(k:Nat) (g:Nat→Int),k≤8∧ii= .int .i64 (k:Int)∧(∀ j,j<k→g j=h j+38*h (j+8))∧Calm.St w Wr [⟨b5,nuF g,70⟩,⟨b,nxF h,113⟩,⟨bR,nuF (fun _=>0),70⟩,⟨bB,nuC B,70⟩,⟨bA,nuC A,70⟩]) (fun ii _=>8 - (intOf ii).toNat)
      case atStart=>exact⟨0,_,by omega,rfl,fun j h=>by omega,S⟩
      case round =>
        clear S
        obtain⟨k,g,hk,rfl,hg,S⟩:=hrel
        by_cases hk8:k<8
        · have hk8' : (k : Int) < 8 := by omega
          have hk16':(k:Int)<16:=by omega
          obtain⟨s,hs⟩:∃ s:Nat,s=k+8:=⟨_,rfl⟩
          have g1:IntKind.i64.wrap ((k:Int)+8)=(s:Int):=by rw[wrap_small _ (by omega) (by omega)];omega
          have g2:(s:Int)<16:=by omega
          have Hx:=hide (nxF_at h k (by omega))
          have Hy:=hide (nxF_at h s (by omega))
          have b1:=HH.out k
          have b2:=HH.out s
          have e1:IntKind.u64.wrap (38*h s)=38*h s:=by rw[IntKind.wrap_u64];omega
          have e2:IntKind.u64.wrap (h k+38*h s)=h k+38*h s:=by rw[IntKind.wrap_u64];omega
          have Hs:=hide hs
          have Hg:=hide hg
          clear hs hg
          go_wp2_with (first|(refine wl_box S rfl rfl rfl ?_;clear S;intro b W S)|(refine wl_new (ty:=58) S rfl rfl zeroFe ?_;clear S;intro b W S)|(refine g_load (ty:=58) rfl ?_;refine wl_load (ty:=58) S rfl rfl rfl (by repeat constructor) aggFe (by rfl) ?_)|(refine g_store (ty:=58) rfl ?_;refine wl_store (ty:=58) S rfl rfl rfl rfl (by repeat(first|exact foc_hd|apply foc_tl)) aggFe rfl (by rfl) (w4_one _ _ _ _) ?_;clear S;intro W S)|(refine g_load (ty:=24) rfl ?_;refine wl_loadE (ty:=24) S rfl rfl rfl (by repeat constructor) (by rfl) one64 ?_)|(refine g_store (ty:=24) rfl ?_;refine wl_storeE (ty:=24) S rfl rfl rfl rfl (by rfl) (by repeat(first|exact foc_hd|apply foc_tl)) one64 (by simp) rfl ?_;clear S;intro W S;simp only[Act.eval,zQ] at S))
          refine Calm.region0 S 11 (by kernel_rfl) (by kernel_rfl) (fun S=> ?_)
          iterate 3 (first|(refine wn_move rfl (by rfl) (Or.inl rfl) ?_;simp only[Act.put,Act.eval,zQ])|(apply wn_val rfl (by rfl);(intro w;go_simp;rfl);simp only[Act.put,Act.eval,zQ]))
          refine Calm.gn_load (ty:=24) rfl ?_
          refine wn_loadE (ty:=24) (b:=b) S rfl (by rfl) rfl rfl (by repeat constructor) Hx.out one64 ?_
          simp only[Act.put,Act.eval,zQ]
          iterate 3 (first|(refine wn_move rfl (by rfl) (Or.inl rfl) ?_;simp only[Act.put,Act.eval,zQ])|(apply wn_val rfl (by rfl);(intro w;go_simp;rfl);simp only[Act.put,Act.eval,zQ]))
          refine Calm.gn_load (ty:=24) rfl ?_
          refine wn_loadE (ty:=24) (b:=b) S rfl (by rfl) rfl rfl (by repeat constructor) Hy.out one64 ?_
          simp only[Act.put,Act.eval,zQ]
          repeat((apply wn_val rfl (by rfl);(intro w;go_simp;rfl);simp only[Act.put,Act.eval,zQ]))
          (refine wn_nil ?_;clear S;intro W S;simp only[Act.put,List.setIfInBounds_toArray,List.set_cons_zero,List.set_cons_succ,List.drop_succ_cons,List.drop_zero,List.drop_nil])
          try rw[e1]
          try rw[e2]
          refine wl_storeE (ty:=24) (b:=b5) (cs:=nuF (upd g k (h k+38*h s))) S rfl rfl rfl rfl (nuF_set _ _ _) (by repeat(first|exact foc_hd|apply foc_tl)) one64 (by rw[nuF_size];omega) rfl ?_
          clear S
          intro W S
          go_wp2_with (first|(refine wl_box S rfl rfl rfl ?_;clear S;intro b W S)|(refine wl_new (ty:=58) S rfl rfl zeroFe ?_;clear S;intro b W S)|(refine g_load (ty:=58) rfl ?_;refine wl_load (ty:=58) S rfl rfl rfl (by repeat constructor) aggFe (by rfl) ?_)|(refine g_store (ty:=58) rfl ?_;refine wl_store (ty:=58) S rfl rfl rfl rfl (by repeat(first|exact foc_hd|apply foc_tl)) aggFe rfl (by rfl) (w4_one _ _ _ _) ?_;clear S;intro W S)|(refine g_load (ty:=24) rfl ?_;refine wl_loadE (ty:=24) S rfl rfl rfl (by repeat constructor) (by rfl) one64 ?_)|(refine g_store (ty:=24) rfl ?_;refine wl_storeE (ty:=24) S rfl rfl rfl rfl (by rfl) (by repeat(first|exact foc_hd|apply foc_tl)) one64 (by simp) rfl ?_;clear S;intro W S;simp only[Act.eval,zQ] at S))
          go_roundw
          case rel=>
            refine⟨k+1,_,by omega,by go_num,fun j hj=> ?_,S⟩
            by_cases e:j=k
            · subst e;rw[upd_eq,Hs.out]
            · rw[upd_ne _ _ _ e];exact Hg.out j (by omega)
          case measure=>simp[intOf];omega
        · have hk' : k = 8 := by omega
          subst hk'
          rw[nuF_ext g (fun j=>h j+38*h (j+8)) (fun j hj=>hg j hj)] at S
          clear hg
          go_wp2_with (first|(refine g_load (ty:=70) rfl ?_;refine wl_load (ty:=70) S rfl rfl rfl (by repeat constructor) aggNu (by rw[nuF_size]) ?_))
          refine(HR.out _).mono ?_
          rintro e W1 ⟨rfl,hb⟩
          have S:=S.call hb
          clear hb
          go_wp2_with (first|(refine g_store (ty:=70) rfl ?_;refine wl_store (ty:=70) S rfl rfl rfl rfl (by repeat(first|exact foc_hd|apply foc_tl)) aggNu (by rw[nuC_size]) (by rw[nuF_size]) (nuF_one _) ?_;clear S;intro W S))
          refine Calm.ret_cell S (by rfl) (by rfl) (by repeat constructor) aggNu (by rw[nuC_size]) (by rfl) ?_
          exact⟨rfl,S.below⟩
end Go.Proofs.YtdebkddhpogkgaaGreat
