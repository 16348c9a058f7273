import Derived.Test.YtdebkddhpogkgaaZAMapsRefAll
import Derived.Test.YtdebkddhpogkgaaZAMapsRead
set_option linter.unusedSimpArgs false
namespace Go.Proofs.Ytdebkddhpogkgaa
open Go.RowKit Go.Calm
theorem by4_key (X:Nat) (q r:Nat) (hr:r<4):(X / 4294967296 ^ q%4294967296) / 256 ^ r%256=X / 256 ^ (4*q+r)%256:=by
  have e1:(256:Nat) ^ (4*q+r)=4294967296 ^ q*256 ^ r:=by
    rw[Nat.pow_add,Nat.pow_mul]
  have e2:(4294967296:Nat)=256 ^ r*(256 ^ (3 - r)*256):=by
    rw[← Nat.mul_assoc,← Nat.pow_add,show r+(3 - r)=3 by omega]
  rw[e1,← Nat.div_div_eq_div_mul]
  generalize X / 4294967296 ^ q=y
  have h:=Nat.mod_mul_right_div_self y (256 ^ r) (256 ^ (3 - r)*256)
  rw[← e2] at h
  rw[h,Nat.mod_mul_left_mod]
theorem by4 (n:Int) (hn:0≤n) (q r:Nat) (hr:r<4):nuG n q / 256 ^ r%256=byt n (4*q+r):=by
  obtain⟨X,rfl⟩:=Int.eq_ofNat_of_zero_le hn
  have h:=congrArg (fun n:Nat=>(n:Int)) (by4_key X q r hr)
  unfold nuG byt
  simp only[Int.natCast_emod,Int.natCast_ediv,Int.natCast_pow] at h ⊢
  exact h
set_option maxHeartbeats 1000000 in
theorem RBytes_c (n : Int) (hn : 0 ≤ n) (w : World) : Calls Try.prog 81 #[.agg (nuC n)] w fun e w' => e = .returned (.agg (byC n)) ∧ Below w.heap.size w w' := by
  have S:=Calm.St.start w
  go_enter Try.func81,Try.ntmps81
  go_wp2_with (first|(refine wl_box S rfl rfl rfl ?_;clear S;intro b W S)|(refine wl_new (ty:=24) S rfl rfl zeroBy ?_;clear S;intro b W S))
  rename_i bA _ bR _ K hK
  go_loopw [4] (fun i Wr=>∃ k:Nat,k≤32∧i= .int .i64 (k:Int)∧Calm.St w Wr [⟨b,byK n k,24⟩,⟨bR,byK 0 0,24⟩,⟨bA,nuC n,61⟩]) (fun i _=>32 - (intOf i).toNat)
  case atStart=>exact⟨0,by omega,rfl,by rw[byK_0 n 0];exact S⟩
  case round =>
    clear S
    obtain⟨k,hk,rfl,S⟩:=hrel
    by_cases hlt:k<32
    · obtain ⟨q, hq⟩ : ∃ q : Nat, q = k / 4 := ⟨_, rfl⟩
      obtain⟨r,hr⟩:∃ r:Nat,r=k%4:=⟨_,rfl⟩
      obtain⟨s,hs⟩:∃ s:Nat,s=8*r:=⟨_,rfl⟩
      have g1:IntKind.i64.wrap ((k:Int) / 4)=(q:Int):=by rw[wrap_small _ (by omega) (by omega)];omega
      have g2:(k:Int).tmod 4=(r:Int):=by rw[Int.tmod_eq_emod_of_nonneg (by omega)];omega
      have g3:IntKind.i64.wrap (8*(r:Int))=(s:Int):=by rw[wrap_small _ (by omega) (by omega)];omega
      have g4:(q:Int)<8:=by omega
      have g5:(k:Int)<32:=by omega
      have hs64:s≤64:=by omega
      have Hx:Hid ((nuC n)[q]? =some (.int .u64 (nuG n q))):=nuF_at (nuG n) q (by omega)
      have hxb:=nuG_bd n q
      have HB:Hid (nuG n q / 2 ^ s%256=byt n k):=by
        have h:=by4 n hn q r (by omega)
        rw[show 4*q+r=k by omega,show(256:Int) ^ r=2 ^ s by rw[hs,Int.pow_mul];rfl] at h
        exact h
      have g6:(nuG n q / 2 ^ s).tmod 256=nuG n q / 2 ^ s%256:=Int.tmod_eq_emod_of_nonneg (Int.ediv_nonneg hxb.1 (Int.le_of_lt (Int.pow_pos (by omega))))
      clear hq hr hs
      go_wp2_with (first|(refine g_load (ty:=39) rfl ?_;refine wl_loadE (ty:=39) (b:=bA) S rfl rfl rfl (by repeat constructor) Hx.out one64 ?_)|(refine g_store (ty:=5) rfl ?_;refine wl_storeE (ty:=5) (b:=b) (cs:=byK n (k+1)) S rfl rfl rfl rfl (byK_next n k _ HB.out).symm (by repeat(first|exact foc_hd|apply foc_tl)) oneBy (by rw[byK_size];omega) rfl ?_;clear S;intro W S))
      go_roundw
      case rel=>exact⟨k+1,by omega,by go_num,S⟩
      case measure=>simp[intOf];omega
    · have hk' : k = 32 := by omega
      subst hk'
      go_wp2_with (first|(refine g_load (ty:=24) rfl ?_;refine wl_load (ty:=24) S rfl rfl rfl (by repeat constructor) aggBy (by rw[byK_size]) ?_)|(refine g_store (ty:=24) rfl ?_;refine wl_store (ty:=24) S rfl rfl rfl rfl (by repeat(first|exact foc_hd|apply foc_tl)) aggBy (by rw[byK_size]) (by rw[byK_size]) (byK_one _ _) ?_;clear S;intro W S))
      refine Calm.ret_cell S (by rfl) (by rfl) (by repeat constructor) aggBy (by rw[byK_size]) (by rfl) ?_
      exact⟨rfl,S.below⟩
def tb (n:Int) (k q:Nat):Int:=nuG n q / 256 ^ (k - 4*q)
theorem p256 (k:Nat):(0:Int)<256 ^ k:=Int.pow_pos (by omega)
theorem tb_bd (n:Int) (k q:Nat):0≤tb n k q∧tb n k q<4294967296:=by
  have hb:=nuG_bd n q
  have hp:=p256 (k - 4*q)
  exact⟨Int.ediv_nonneg hb.1 (by omega),Int.lt_of_le_of_lt (Int.ediv_le_self _ hb.1) hb.2⟩
theorem tb_step (n:Int) (hn:0≤n) (m q:Nat) (hq:q=m / 4):256*tb n (m+1) q+byt n m=tb n m q:=by
  obtain⟨r,hr⟩:∃ r,r=m - 4*q:=⟨_,rfl⟩
  have h:=by4 n hn q r (by omega)
  unfold tb
  rw[show m=4*q+r by omega,← h,show 4*q+r+1 - 4*q=r+1 by omega,show 4*q+r - 4*q=r by omega,Int.pow_succ]
  have hp:=p256 r
  rw[← Int.ediv_ediv_of_nonneg (by omega)]
  generalize nuG n q / 256 ^ r=z
  omega
theorem tb_same (n:Int) (m q:Nat) (hne:q≠m / 4):tb n (m+1) q=tb n m q:=by
  unfold tb
  rcases Nat.lt_or_ge (4*q) m with h|h
  · have h1 : 4 * q + 4 ≤ m := by omega
    have hb:=nuG_bd n q
    generalize nuG n q=y at*
    have key:∀ d,4≤d→y / (256:Int) ^ d=0:=by
      intro d hd
      refine Int.ediv_eq_zero_of_lt hb.1 (Int.lt_of_lt_of_le hb.2 ?_)
      obtain⟨e,rfl⟩:∃ e,d=4+e:=⟨d - 4,by omega⟩
      rw[Int.pow_add]
      have:=p256 e
      show 4294967296≤4294967296*(256:Int) ^ e
      omega
    rw[key _ (by omega),key _ (by omega)]
  · rw[show m+1 - 4*q=0 by omega,show m - 4*q=0 by omega]
theorem tb_32 (n:Int) (q:Nat) (hq:q<8):tb n 32 q=0:=by
  unfold tb
  have hb:=nuG_bd n q
  refine Int.ediv_eq_zero_of_lt hb.1 (Int.lt_of_lt_of_le hb.2 ?_)
  obtain⟨e,he⟩:∃ e,32 - 4*q=4+e:=⟨32 - 4*q - 4,by omega⟩
  rw[he,Int.pow_add]
  have:=p256 e
  show 4294967296≤4294967296*(256:Int) ^ e
  omega
theorem tb_0 (n:Int) (q:Nat):tb n 0 q=nuG n q:=by unfold tb;simp
set_option maxHeartbeats 1000000 in
theorem RRead_c (n : Int) (hn : Ok n) (w : World) : Calls Try.prog 67 #[.agg (byC n)] w fun e w' => e = .returned (.tuple #[.agg (nuC (n % pr)), .bool (decide (n < pr))]) ∧ Below w.heap.size w w' := by
  have S:=Calm.St.start w
  have HR:Hid (∀ w,Calls Try.prog 104 #[.agg (nuC n)] w fun e w'=>e= .returned (.agg (nuC (n%pr)))∧Below w.heap.size w w'):=by
    intro w
    have:=Reduce_c (nuG n) (nu_lt n) w
    rw[val_nu n hn] at this
    exact this
  have HL:Hid (∀ w,Calls Try.prog 105 #[.agg (nuC n)] w fun e w'=>e= .returned (.bool (decide (n<pr)))∧Below w.heap.size w w'):=by
    intro w
    have:=below_c (nuG n) (fun j _=>nuG_bd n j) w
    rw[val_nu n hn] at this
    exact this
  go_enter Try.func67,Try.ntmps67
  go_wp2_with (first|(refine wl_box S rfl rfl rfl ?_;clear S;intro b W S)|(refine wl_new (ty:=61) S rfl rfl zeroNu ?_;clear S;intro b W S))
  rename_i bA _ bR _ K hK
  go_loopw [5] (fun i Wr=>∃(k:Nat) (x:Nat→Int),k≤32∧i= .int .i64 ((k:Int) - 1)∧(∀ q,q<8→x q=tb n k q)∧Calm.St w Wr [⟨b,nuF x,61⟩,⟨bR,nuF (fun _=>0),61⟩,⟨bA,byC n,24⟩]) (fun i _=>(intOf i+1).toNat)
  case atStart=>exact⟨32,fun _=>0,by omega,rfl,fun q hq=>(tb_32 n q hq).symm,S⟩
  case round =>
    clear S
    obtain⟨k,x,hk,rfl,hx,S⟩:=hrel
    by_cases h0:k=0
    · subst h0
      rw[show((0:Nat):Int) - 1= -1 from rfl]
      have hfin:nuF x=nuC n:=nuF_ext _ _ fun j hj=>by rw[hx j hj,tb_0]
      rw[hfin] at S
      clear hx hfin
      go_wp2_with (first|(refine wl_box S rfl rfl rfl ?_;clear S;intro b W S)|(refine wl_new (ty:=50) S rfl rfl zeroFe ?_;clear S;intro b W S)|(refine g_load (ty:=50) rfl ?_;refine wl_load (ty:=50) S rfl rfl rfl (by repeat constructor) aggFe (by rfl) ?_)|(refine g_store (ty:=50) rfl ?_;refine wl_store (ty:=50) S rfl rfl rfl rfl (by repeat(first|exact foc_hd|apply foc_tl)) aggFe rfl (by rfl) (w4_one _ _ _ _) ?_;clear S;intro W S)|(refine g_load (ty:=39) rfl ?_;refine wl_loadE (ty:=39) S rfl rfl rfl (by repeat constructor) (by rfl) one64 ?_)|(refine g_store (ty:=39) rfl ?_;refine wl_storeE (ty:=39) S rfl rfl rfl rfl (by rfl) (by repeat(first|exact foc_hd|apply foc_tl)) one64 (by simp) rfl ?_;clear S;intro W S;simp only[Act.eval,zQ] at S))
      refine Calm.region0 S 4 (by kernel_rfl) (by kernel_rfl) (fun S=> ?_)
      repeat(first|(refine Calm.gn_load (ty:=61) rfl ?_;refine wn_load (ty:=61) S rfl (by rfl) rfl rfl (by repeat constructor) aggNu (by rw[nuC_size]) ?_;simp only[Act.put,Act.eval,zQ])|(apply wn_call (f:=104) rfl (by rfl) rfl;(intro w;go_simp;rfl);(intro w;exact HR.out w);simp only[Act.put,Act.eval,zQ])|(apply wn_call (f:=105) rfl (by rfl) rfl;(intro w;go_simp;rfl);(intro w;exact HL.out w);simp only[Act.put,Act.eval,zQ]))
      (refine wn_nil ?_;clear S;intro W S;simp only[Act.put,List.setIfInBounds_toArray,List.set_cons_zero,List.set_cons_succ,List.drop_succ_cons,List.drop_zero,List.drop_nil])
      go_wp2_with (first|(refine g_store (ty:=61) rfl ?_;refine wl_store (ty:=61) S rfl rfl rfl rfl (by repeat(first|exact foc_hd|apply foc_tl)) aggNu (by rw[nuC_size]) (by rw[nuF_size]) (nuF_one _) ?_;clear S;intro W S))
      refine ret_tuple (v:= .bool (decide (n<pr))) S (by rfl) (by rfl) (by repeat constructor) aggNu (by rw[nuC_size]) (by rfl) (by rfl) ?_
      exact⟨rfl,S.below⟩
    · obtain ⟨m, rfl⟩ : ∃ m, k = m + 1 := ⟨k - 1, by omega⟩
      have em:((m+1:Nat):Int) - 1=(m:Int):=by omega
      rw[em]
      have hm8:(m:Int)<32:=by omega
      obtain⟨q,hq⟩:∃ q:Nat,q=m / 4:=⟨_,rfl⟩
      have g1:IntKind.i64.wrap ((m:Int) / 4)=(q:Int):=by rw[wrap_small _ (by omega) (by omega)];omega
      have g4:(q:Int)<8:=by omega
      have hq8:q<8:=by omega
      have Hx:=hide (nuF_at x q hq8)
      have Hb:=hide (byC_at n m (by omega))
      obtain⟨d0,d1⟩:=byt_bd n m
      have hxq:=hx q hq8
      have hst:=tb_step n hn.1 m q hq
      have hbd:=tb_bd n m q
      have hbd2:=tb_bd n (m+1) q
      rw[← hxq] at hst hbd2
      have g0:IntKind.u64.wrap (byt n m)=byt n m:=by rw[IntKind.wrap_u64];omega
      have e1:IntKind.u64.wrap (256*x q)=256*x q:=by rw[IntKind.wrap_u64];omega
      have e2:IntKind.u64.wrap (256*x q+byt n m)=256*x q+byt n m:=by rw[IntKind.wrap_u64];omega
      have Hst:=hide hst
      have Hx2:=hide hx
      have Hq:=hide hq
      clear hst hx hxq hq
      go_wp2_with (first|(refine wl_box S rfl rfl rfl ?_;clear S;intro b W S)|(refine wl_new (ty:=50) S rfl rfl zeroFe ?_;clear S;intro b W S)|(refine g_load (ty:=50) rfl ?_;refine wl_load (ty:=50) S rfl rfl rfl (by repeat constructor) aggFe (by rfl) ?_)|(refine g_store (ty:=50) rfl ?_;refine wl_store (ty:=50) S rfl rfl rfl rfl (by repeat(first|exact foc_hd|apply foc_tl)) aggFe rfl (by rfl) (w4_one _ _ _ _) ?_;clear S;intro W S)|(refine g_load (ty:=39) rfl ?_;refine wl_loadE (ty:=39) S rfl rfl rfl (by repeat constructor) (by rfl) one64 ?_)|(refine g_store (ty:=39) rfl ?_;refine wl_storeE (ty:=39) S rfl rfl rfl rfl (by rfl) (by repeat(first|exact foc_hd|apply foc_tl)) one64 (by simp) rfl ?_;clear S;intro W S;simp only[Act.eval,zQ] at S))
      refine Calm.region0 S 13 (by kernel_rfl) (by kernel_rfl) (fun S=> ?_)
      iterate 5 (first|(refine wn_move rfl (by rfl) (Or.inl rfl) ?_;simp only[Act.put,Act.eval,zQ])|(apply wn_val rfl (by rfl);(intro w;go_simp;rfl);simp only[Act.put,Act.eval,zQ]))
      refine Calm.gn_load (ty:=39) rfl ?_
      refine wn_loadE (ty:=39) (b:=b) S rfl (by rfl) rfl rfl (by repeat constructor) Hx.out one64 ?_
      simp only[Act.put,Act.eval,zQ]
      iterate 3 (first|(refine wn_move rfl (by rfl) (Or.inl rfl) ?_;simp only[Act.put,Act.eval,zQ])|(apply wn_val rfl (by rfl);(intro w;go_simp;rfl);simp only[Act.put,Act.eval,zQ]))
      refine Calm.gn_load (ty:=5) rfl ?_
      refine wn_loadE (ty:=5) (b:=bA) S rfl (by rfl) rfl rfl (by repeat constructor) Hb.out oneBy ?_
      simp only[Act.put,Act.eval,zQ]
      repeat((apply wn_val rfl (by rfl);(intro w;go_simp;rfl);simp only[Act.put,Act.eval,zQ]))
      (refine wn_nil ?_;clear S;intro W S;simp only[Act.put,List.setIfInBounds_toArray,List.set_cons_zero,List.set_cons_succ,List.drop_succ_cons,List.drop_zero,List.drop_nil])
      try rw[e1]
      try rw[g0]
      try rw[e2]
      refine wl_storeE (ty:=39) (b:=b) (cs:=nuF (upd x q (256*x q+byt n m))) S rfl rfl rfl rfl (nuF_set _ _ _) (by repeat(first|exact foc_hd|apply foc_tl)) one64 (by rw[nuF_size];exact hq8) rfl ?_
      clear S
      intro W S
      go_wp2_with (first|(refine wl_box S rfl rfl rfl ?_;clear S;intro b W S)|(refine wl_new (ty:=50) S rfl rfl zeroFe ?_;clear S;intro b W S)|(refine g_load (ty:=50) rfl ?_;refine wl_load (ty:=50) S rfl rfl rfl (by repeat constructor) aggFe (by rfl) ?_)|(refine g_store (ty:=50) rfl ?_;refine wl_store (ty:=50) S rfl rfl rfl rfl (by repeat(first|exact foc_hd|apply foc_tl)) aggFe rfl (by rfl) (w4_one _ _ _ _) ?_;clear S;intro W S)|(refine g_load (ty:=39) rfl ?_;refine wl_loadE (ty:=39) S rfl rfl rfl (by repeat constructor) (by rfl) one64 ?_)|(refine g_store (ty:=39) rfl ?_;refine wl_storeE (ty:=39) S rfl rfl rfl rfl (by rfl) (by repeat(first|exact foc_hd|apply foc_tl)) one64 (by simp) rfl ?_;clear S;intro W S;simp only[Act.eval,zQ] at S))
      go_roundw
      case rel=>
        refine⟨m,_,by omega,by go_num,fun j hj=> ?_,S⟩
        by_cases e:j=q
        · subst e;rw[upd_eq];exact Hst.out
        · rw[upd_ne _ _ _ e,Hx2.out j hj];exact tb_same n m j (by rw[← Hq.out];exact e)
      case measure=>simp[intOf]
end Go.Proofs.Ytdebkddhpogkgaa
