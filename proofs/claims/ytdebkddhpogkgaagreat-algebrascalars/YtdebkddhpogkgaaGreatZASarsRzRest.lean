import Derived.Test.YtdebkddhpogkgaaGreatZASarsRzAll
set_option linter.unusedSimpArgs false
namespace Go.Proofs.YtdebkddhpogkgaaGreat
open Go.RowKit Go.Calm Go.Arr
theorem and_one (a:Int) (h0:0≤a) (h1:a<18446744073709551616):bits .and .u64 a 1=a%2:=by
  obtain⟨Y,rfl⟩:=Int.eq_ofNat_of_zero_le h0
  have h:=bits_and_u64_nat Y 1 (by omega) (by omega)
  rw[Nat.and_one_is_mod] at h
  exact h.trans (by omega)
theorem shr_bd (x:Int) (r:Nat) (h0:0≤x) (h1:x<18446744073709551616):0≤x / 2 ^ r∧x / 2 ^ r<18446744073709551616:=
  ⟨Int.ediv_nonneg h0 (Int.le_of_lt (Int.pow_pos (by omega))),Int.lt_of_le_of_lt (Int.ediv_le_self _ h0) h1⟩
theorem top_zero (N:Int) (p:Nat) (h0:0≤N) (h1:N<18446744073709551616 ^ (p+1)) (hd:dig 18446744073709551616 N p=0):N<18446744073709551616 ^ p:=by
  unfold dig at hd
  have hp:=Bpos M_pos p
  have e:=Int.emod_add_mul_ediv N (18446744073709551616 ^ p)
  have b1:=Int.emod_lt_of_pos N hp
  have hq0:0≤N / 18446744073709551616 ^ p:=Int.ediv_nonneg h0 (by omega)
  have hq1:N / 18446744073709551616 ^ p<18446744073709551616:=Int.ediv_lt_of_lt_mul hp (by rw[Int.pow_succ,Int.mul_comm] at h1;exact h1)
  have hz:N / 18446744073709551616 ^ p=0:=by omega
  rw[hz,Int.mul_zero] at e
  omega
theorem ediv2 (x y z:Int) (hy:0≤y):x / y / z=x / (y*z):=by rw[Int.ediv_ediv,if_neg (by omega),Int.sub_zero]
theorem m_two (L:Nat):(2:Int) ^ (64*L)=18446744073709551616 ^ L:=by rw[Int.pow_mul];rfl
theorem rest_start (N:Int) (L:Nat) (h0:0≤N) (h1:N<18446744073709551616 ^ (L+3)):arr .u64 4 (dig 18446744073709551616 (N / 2 ^ (64*L - 0)%el))= #[.int .u64 (dig 18446744073709551616 N L),.int .u64 (dig 18446744073709551616 N (L+1)),.int .u64 (dig 18446744073709551616 N (L+2)),.int .u64 0]:=by
  rw[Nat.sub_zero,m_two]
  have hp:=Bpos M_pos L
  have hq0:0≤N / 18446744073709551616 ^ L:=Int.ediv_nonneg h0 (by omega)
  have hq1:N / 18446744073709551616 ^ L<6277101735386680763835789423207666416102355444464034512896:=Int.ediv_lt_of_lt_mul hp (by rw[Int.pow_add,show(18446744073709551616:Int) ^ 3=6277101735386680763835789423207666416102355444464034512896 by decide,Int.mul_comm] at h1;exact h1)
  have d1:dig 18446744073709551616 N (L+1)=N / 18446744073709551616 ^ L / 18446744073709551616%18446744073709551616:=by unfold dig;rw[Int.pow_succ,ediv2 _ _ _ (by omega)]
  have d2:dig 18446744073709551616 N (L+2)=N / 18446744073709551616 ^ L / 340282366920938463463374607431768211456%18446744073709551616:=by unfold dig;rw[Int.pow_add,show(18446744073709551616:Int) ^ 2=340282366920938463463374607431768211456 by decide,ediv2 _ _ _ (by omega)]
  have d0:dig 18446744073709551616 N L=N / 18446744073709551616 ^ L%18446744073709551616:=rfl
  rw[d0,d1,d2,Int.emod_eq_of_lt hq0 (by unfold el;omega)]
  generalize N / 18446744073709551616 ^ L=y at*
  exact dig4 _ _ _ _ _ (by omega) (by omega) (by omega) (by omega) (by omega) (by omega) (by omega) (by omega) (by omega)
theorem rest_next (N:Int) (t:Nat):N / 2 ^ t%el=offL (2*(N / 2 ^ (t+1)%el)+N / 2 ^ t%2):=by
  have e:N / 2 ^ (t+1)=N / 2 ^ t / 2:=by rw[Int.pow_succ,ediv2 _ _ _ (Int.le_of_lt (Int.pow_pos (by omega)))]
  rw[e]
  generalize N / 2 ^ t=y
  have h2:y=2*(y / 2)+y%2:=by omega
  have h3:=Int.emod_add_mul_ediv (y / 2) el
  have hb:0≤y / 2%el∧y / 2%el<el:=by unfold el;omega
  generalize y / 2%el=r at*
  generalize y / 2 / el=u at*
  have e1:y=2*r+y%2+el*(2*u):=by unfold el at *; omega
  have hc:0≤y%2∧y%2<2:=by omega
  generalize y%2=c at*
  unfold offL
  rw[e1,Int.add_mul_emod_self_left]
  split
  · rename_i h;exact Int.emod_eq_of_lt (by omega) h
  · rename_i h
    have e2:2*r+c=2*r+c - el+el*1:=by omega
    rw[e2,Int.add_mul_emod_self_left]
    rw[Int.emod_eq_of_lt (by omega) (by omega)]
    omega
set_option maxHeartbeats 4000000 in
theorem rest_c (N : Int) (hN : 0 ≤ N ∧ N < 18446744073709551616 ^ 8) (w : World) : Calls Tryz.prog 33 #[.agg (arr .u64 8 (dig 18446744073709551616 N))] w fun e w' => e = .returned (.agg (arr .u64 4 (dig 18446744073709551616 (N % el)))) ∧ Below w.heap.size w w' := by
  have S:=Calm.St.start w
  go_enter Tryz.func33,Tryz.ntmps33
  go_wp2_with (first|(refine wl_box S rfl rfl rfl ?_;clear S;intro b W S)|(refine wl_new (ty:=44) S rfl rfl zeroWd ?_;clear S;intro b W S))
  rename_i bN _ K hK
  rename Nat=>bR
  go_loopw [3] (fun v Wr=>∃ L:Nat,1≤L∧L≤5∧v= .int .i64 L∧N<18446744073709551616 ^ (L+3)∧Calm.St w Wr [⟨bR,arr .u64 4 (fun _=>0),44⟩,⟨bN,arr .u64 8 (dig 18446744073709551616 N),47⟩]) (fun v _=>(intOf v).toNat)
  case atStart=>exact⟨5,by omega,by omega,rfl,hN.2,S⟩
  case round =>
    clear S
    obtain⟨L,hL1,hL5,rfl,hNL,S⟩:=hrel
    by_cases hgo:1<L∧dig 18446744073709551616 N (L+2)=0
    · have h1 : (1 : Int) < (L : Int) := by omega
      have p2:IntKind.i64.wrap ((L:Int)+2)=((L+2:Nat):Int):=by rw[wrap_small _ (by omega) (by omega)];omega
      have i2:((L+2:Nat):Int)<8:=by omega
      have n2:(0:Int)≤((L+2:Nat):Int):=by omega
      have p4:IntKind.i64.wrap ((L:Int) - 1)=(L:Int) - 1:=by rw[IntKind.wrap_i64];omega
      have D2:Hid ((arr .u64 8 (dig 18446744073709551616 N))[L+2]? =some (.int .u64 0)):=by rw[← hgo.2];exact arr_at .u64 8 (dig 18446744073709551616 N) (L+2) (by omega)
      have HNL:=hide hNL
      have Hgo:=hide hgo
      clear hNL hgo
      go_wp2_with (first|(refine g_load (ty:=24) rfl ?_;refine wl_loadE (ty:=24) (b:=bN) (v:= .int .u64 0) S rfl rfl rfl (by repeat constructor) D2.out o64 ?_))
      go_roundw
      case rel=>exact⟨L - 1,by omega,by omega,by go_num,by have:=top_zero N (L+2) hN.1 HNL.out Hgo.out.2;rw[show L - 1+3=L+2 by omega];exact this,S⟩
      case measure=>simp[intOf];omega
    by_cases hl:1<L
    · have h1 : (1 : Int) < (L : Int) := by omega
      have p2:IntKind.i64.wrap ((L:Int)+2)=((L+2:Nat):Int):=by rw[wrap_small _ (by omega) (by omega)];omega
      have i2:((L+2:Nat):Int)<8:=by omega
      have n2:(0:Int)≤((L+2:Nat):Int):=by omega
      obtain⟨y,hy⟩:∃ y:Int,y=dig 18446744073709551616 N (L+2):=⟨_,rfl⟩
      have hy0:¬ y=0:=by rw[hy];exact fun h=>hgo ⟨hl,h⟩
      have D2:Hid ((arr .u64 8 (dig 18446744073709551616 N))[L+2]? =some (.int .u64 y)):=by rw[hy];exact arr_at .u64 8 (dig 18446744073709551616 N) (L+2) (by omega)
      clear hgo hy
      go_wp2_with (first|(refine g_load (ty:=24) rfl ?_;refine wl_loadE (ty:=24) (b:=bN) (v:= .int .u64 y) S rfl rfl rfl (by repeat constructor) D2.out o64 ?_))
      clear hy0 D2 h1 p2 i2 n2
      obtain⟨P1,hP1⟩:∃ P:Nat,P=L+1:=⟨_,rfl⟩
      obtain⟨P2,hP2⟩:∃ P:Nat,P=L+2:=⟨_,rfl⟩
      obtain⟨C,hC⟩:∃ P:Nat,P=64*L:=⟨_,rfl⟩
      have p1:IntKind.i64.wrap ((L:Int)+1)=(P1:Int):=by rw[wrap_small _ (by omega) (by omega)];omega
      have p2:IntKind.i64.wrap ((L:Int)+2)=(P2:Int):=by rw[wrap_small _ (by omega) (by omega)];omega
      have p3:IntKind.i64.wrap (64*(L:Int))=(C:Int):=by rw[wrap_small _ (by omega) (by omega)];omega
      have i0:(L:Int)<8:=by omega
      have i1:(P1:Int)<8:=by omega
      have i2:(P2:Int)<8:=by omega
      have D0:=hide (arr_at .u64 8 (dig 18446744073709551616 N) L (by omega))
      have D1:=hide (arr_at .u64 8 (dig 18446744073709551616 N) P1 (by omega))
      have D2:=hide (arr_at .u64 8 (dig 18446744073709551616 N) P2 (by omega))
      have HC:=hide hC
      have hCb:C≤320:=by omega
      have HST:Hid (arr .u64 4 (dig 18446744073709551616 (N / 2 ^ (C - 0)%el))= #[.int .u64 (dig 18446744073709551616 N L),.int .u64 (dig 18446744073709551616 N P1),.int .u64 (dig 18446744073709551616 N P2),.int .u64 0]):=by unfold Hid;rw[hC,hP1,hP2];exact rest_start N L hN.1 hNL
      clear hP1 hP2 hC
      refine Calm.region1 S 13 12 4 (arr .u64 4 fun _=>0) 44 (by kernel_rfl) (by kernel_rfl) rfl rfl zeroWd (fun S=> ?_)
      iterate 2 (first|(refine wn_move rfl (by rfl) (Or.inl rfl) ?_;simp only[Act.put,Act.eval,zQ])|(apply wn_val rfl (by rfl);(intro w;go_simp;rfl);simp only[Act.put,Act.eval,zQ]))
      (refine Calm.gn_load (ty:=24) rfl ?_;refine wn_loadE (ty:=24) (b:=bN) (v:= .int .u64 (dig 18446744073709551616 N L)) S rfl (by rfl) rfl rfl (by repeat constructor) D0.out o64 ?_;simp only[Act.put,Act.eval,zQ])
      iterate 3 (first|(refine wn_move rfl (by rfl) (Or.inl rfl) ?_;simp only[Act.put,Act.eval,zQ])|(apply wn_val rfl (by rfl);(intro w;go_simp;rfl);simp only[Act.put,Act.eval,zQ]))
      (refine Calm.gn_load (ty:=24) rfl ?_;refine wn_loadE (ty:=24) (b:=bN) (v:= .int .u64 (dig 18446744073709551616 N P1)) S rfl (by rfl) rfl rfl (by repeat constructor) D1.out o64 ?_;simp only[Act.put,Act.eval,zQ])
      iterate 3 (first|(refine wn_move rfl (by rfl) (Or.inl rfl) ?_;simp only[Act.put,Act.eval,zQ])|(apply wn_val rfl (by rfl);(intro w;go_simp;rfl);simp only[Act.put,Act.eval,zQ]))
      (refine Calm.gn_load (ty:=24) rfl ?_;refine wn_loadE (ty:=24) (b:=bN) (v:= .int .u64 (dig 18446744073709551616 N P2)) S rfl (by rfl) rfl rfl (by repeat constructor) D2.out o64 ?_;simp only[Act.put,Act.eval,zQ])
      repeat(first|(refine wn_skip rfl ?_)|(apply wn_val rfl (by rfl);(intro w;go_simp;rfl);simp only[Act.put,Act.eval,zQ]))
      (refine wn_nil ?_;clear S;intro b W S;simp only[Act.put,List.setIfInBounds_toArray,List.set_cons_zero,List.set_cons_succ,List.drop_succ_cons,List.drop_zero,List.drop_nil])
      rename_i b4 _ _
      go_wp2_with ((refine g_store (ty:=44) rfl ?_;refine wl_store (ty:=44) S rfl rfl rfl rfl (by repeat(first|exact foc_hd|apply foc_tl)) aggWd (by first|exact(Go.Arr.arr_size _ _ _).symm|rfl) (by first|exact(Go.Arr.arr_size _ _ _).symm|rfl) (by first|exact Go.Arr.arr_one _ _ _|rfl|simp[Value.oneCell']) ?_;clear S;intro W S))
      clear D0 D1 D2 p1 p2 i1 i2
      rename_i K2 hK2
      go_loopw [32] (fun v Wr=>∃ k:Nat,k≤C∧v= .int .i64 k∧Calm.St w Wr [⟨b,arr .u64 4 (dig 18446744073709551616 (N / 2 ^ (C - k)%el)),44⟩,⟨bR,arr .u64 4 (fun _=>0),44⟩,⟨bN,arr .u64 8 (dig 18446744073709551616 N),47⟩]) (fun v _=>C - (intOf v).toNat)
      case atStart=>exact⟨0,by omega,rfl,by rw[HST.out];exact S⟩
      case round =>
        clear S
        obtain⟨k,hk,rfl,S⟩:=hrel
        by_cases hlt:k<C
        · obtain ⟨t, ht⟩ : ∃ t : Nat, t = C - 1 - k := ⟨_, rfl⟩
          obtain⟨q,hq⟩:∃ q:Nat,q=t / 64:=⟨_,rfl⟩
          obtain⟨r,hr⟩:∃ r:Nat,r=t%64:=⟨_,rfl⟩
          have hlt':(k:Int)<(C:Int):=by omega
          have hCL:=HC.out
          have f1:IntKind.i64.wrap ((C:Int) - 1)=(C:Int) - 1:=by rw[IntKind.wrap_i64];omega
          have f2:IntKind.i64.wrap ((C:Int) - 1 - (k:Int))=(t:Int):=by rw[IntKind.wrap_i64];omega
          have f3:IntKind.i64.wrap ((t:Int) / 64)=(q:Int):=by rw[wrap_small _ (by omega) (by omega)];omega
          have f4:(t:Int).tmod 64=(r:Int):=by rw[Int.tmod_eq_emod_of_nonneg (by omega)];omega
          have f5:(q:Int)<8:=by omega
          have f6:r≤64:=by omega
          have f7:IntKind.i64.wrap ((k:Int)+1)=(k:Int)+1:=by rw[IntKind.wrap_i64];omega
          obtain⟨x,hx⟩:∃ x:Int,x=dig 18446744073709551616 N q:=⟨_,rfl⟩
          have Hx:Hid ((arr .u64 8 (dig 18446744073709551616 N))[q]? =some (.int .u64 x)):=by rw[hx];exact arr_at _ _ _ q (by omega)
          have hxb:=dig_bd M_pos N q
          rw[← hx] at hxb
          obtain⟨c,hc⟩:∃ c:Int,c=x / 2 ^ r%2:=⟨_,rfl⟩
          have Hbit:Hid (c=N / 2 ^ t%2):=by unfold Hid;rw[hc,hx,wd1 N hN.1 q r (by omega),show 64*q+r=t by omega]
          have hc0:0≤c∧c<2:=by omega
          have hxr:0≤x / 2 ^ r∧x / 2 ^ r<18446744073709551616:=shr_bd x r hxb.1 hxb.2
          have ea:bits .and .u64 (x / 2 ^ r) 1=c:=by rw[and_one _ hxr.1 hxr.2,hc]
          obtain⟨R,hR⟩:∃ R:Int,R=N / 2 ^ (C - k)%el:=⟨_,rfl⟩
          have hRb:0≤R∧R<el:=by rw[hR];unfold el;omega
          have HN:Hid (N / 2 ^ (C - (k+1))%el=offL (2*R+c)):=by
            unfold Hid
            rw[Hbit.out,hR,show C - (k+1)=t by omega,show C - k=t+1 by omega]
            exact rest_next N t
          rw[← hR] at S
          have HR:=hide hR
          obtain⟨x0,x1,x2,x3,hX,a0,a0',a1,a1',a2,a2',a3,a3',hS⟩:=words4 R hRb.1 (by unfold el at hRb;omega)
          rw[hX] at S
          have a3'':x3≤1152921504606846976:=by unfold el at hRb;omega
          have e3:IntKind.u64.wrap (x3*2)=x3*2:=by rw[IntKind.wrap_u64];omega
          have e2:IntKind.u64.wrap (x2*2)=x2%9223372036854775808*2:=by rw[IntKind.wrap_u64];omega
          have e1:IntKind.u64.wrap (x1*2)=x1%9223372036854775808*2:=by rw[IntKind.wrap_u64];omega
          have e0:IntKind.u64.wrap (x0*2)=x0%9223372036854775808*2:=by rw[IntKind.wrap_u64];omega
          have o3:=or_bit x3 (x2 / 9223372036854775808) (by omega) (by omega) (by omega) (by omega)
          have o2:=or_bit (x2%9223372036854775808) (x1 / 9223372036854775808) (by omega) (by omega) (by omega) (by omega)
          have o1:=or_bit (x1%9223372036854775808) (x0 / 9223372036854775808) (by omega) (by omega) (by omega) (by omega)
          have o0:=or_bit (x0%9223372036854775808) c (by omega) (by omega) (by omega) (by omega)
          obtain⟨y3,hy3⟩:∃ y:Int,y=x3*2+x2 / 9223372036854775808:=⟨_,rfl⟩
          obtain⟨y2,hy2⟩:∃ y:Int,y=x2%9223372036854775808*2+x1 / 9223372036854775808:=⟨_,rfl⟩
          obtain⟨y1,hy1⟩:∃ y:Int,y=x1%9223372036854775808*2+x0 / 9223372036854775808:=⟨_,rfl⟩
          obtain⟨y0,hy0⟩:∃ y:Int,y=x0%9223372036854775808*2+c:=⟨_,rfl⟩
          have b3:0≤y3∧y3<18446744073709551616:=by omega
          have b2:0≤y2∧y2<18446744073709551616:=by omega
          have b1:0≤y1∧y1<18446744073709551616:=by omega
          have b0:0≤y0∧y0<18446744073709551616:=by omega
          have hY:2*R+c=y0+18446744073709551616*y1+340282366920938463463374607431768211456*y2+6277101735386680763835789423207666416102355444464034512896*y3:=by omega
          rw[← hy3] at o3
          rw[← hy2] at o2
          rw[← hy1] at o1
          rw[← hy0] at o0
          have HY:=hide hY
          rw[HY.out] at HN
          have g1:Hid (x2 / 9223372036854775808=x2 / 9223372036854775808):=rfl
          clear ht hCL hY hS hX hR hx hc hq hr hy0 hy1 hy2 hy3 g1 hRb
          go_wp2_with (first|(refine g_load (ty:=24) rfl ?_;refine wl_loadE (ty:=24) S rfl rfl rfl (by repeat constructor) (by rfl) o64 ?_)|(refine g_store (ty:=24) rfl ?_;refine wl_storeE (ty:=24) S rfl rfl rfl rfl (by rfl) (by repeat(first|exact foc_hd|apply foc_tl)) o64 (by simp) rfl ?_;clear S;intro W S;simp only[Act.eval,zQ] at S))
          refine Calm.region0 S 13 (by kernel_rfl) (by kernel_rfl) (fun S=> ?_)
          iterate 1 ((apply wn_val rfl (by rfl);(intro w;go_simp;rfl);simp only[Act.put,Act.eval,zQ]))
          (refine Calm.gn_load (ty:=24) rfl ?_;refine wn_loadE (ty:=24) (b:=b) (v:= .int .u64 x0) S rfl (by rfl) rfl rfl (by repeat constructor) (by rfl) o64 ?_;simp only[Act.put,Act.eval,zQ])
          iterate 4 (first|(refine wn_move rfl (by rfl) (Or.inl rfl) ?_;simp only[Act.put,Act.eval,zQ])|(apply wn_val rfl (by rfl);(intro w;go_simp;rfl);simp only[Act.put,Act.eval,zQ]))
          (refine Calm.gn_load (ty:=24) rfl ?_;refine wn_loadE (ty:=24) (b:=bN) (v:= .int .u64 x) S rfl (by rfl) rfl rfl (by repeat constructor) Hx.out o64 ?_;simp only[Act.put,Act.eval,zQ])
          repeat(first|(refine wn_move rfl (by rfl) (Or.inl rfl) ?_;simp only[Act.put,Act.eval,zQ])|(apply wn_val rfl (by rfl);(intro w;go_simp;rfl);simp only[Act.put,Act.eval,zQ]))
          (refine wn_nil ?_;clear S;intro W S;simp only[Act.put,List.setIfInBounds_toArray,List.set_cons_zero,List.set_cons_succ,List.drop_succ_cons,List.drop_zero,List.drop_nil])
          try rw[e0]
          try rw[ea]
          try rw[o0]
          by_cases hge:y3<1152921504606846976
          · go_wp2_with (first | (refine g_load (ty := 24) rfl ?_; refine wl_loadE (ty := 24) S rfl rfl rfl (by repeat constructor) (by rfl) o64 ?_) | (refine g_store (ty := 24) rfl ?_; refine wl_storeE (ty := 24) S rfl rfl rfl rfl (by rfl) (by repeat (first | exact foc_hd | apply foc_tl)) o64 (by simp) rfl ?_; clear S; intro W S; simp only [Act.eval, zQ] at S))
            go_roundw
            case rel=>exact⟨k+1,by omega,by go_num,by rw[HN.out,offL,if_pos (by unfold el;omega),dig4 y0 y1 y2 y3 _ b0.1 b0.2 b1.1 b1.2 b2.1 b2.2 b3.1 b3.2 rfl];exact S⟩
            case measure=>simp[intOf];omega
          · go_wp2_with (first | (refine g_load (ty := 24) rfl ?_; refine wl_loadE (ty := 24) S rfl rfl rfl (by repeat constructor) (by rfl) o64 ?_) | (refine g_store (ty := 24) rfl ?_; refine wl_storeE (ty := 24) S rfl rfl rfl rfl (by rfl) (by repeat (first | exact foc_hd | apply foc_tl)) o64 (by simp) rfl ?_; clear S; intro W S; simp only [Act.eval, zQ] at S))
            refine(takeOff_c y0 y1 y2 y3 b0.1 b0.2 b1.1 b1.2 b2.1 b2.2 b3.1 b3.2 w _ b _ S).mono ?_
            rintro e W1 ⟨rfl,S1⟩
            clear S
            have S:=S1
            clear S1
            go_wp2_with fail
            go_roundw
            case rel=>exact⟨k+1,by omega,by go_num,by rw[HN.out];exact S⟩
            case measure=>simp[intOf];omega
        · have hk' : k = C := by omega
          subst hk'
          rw[Nat.sub_self,Int.pow_zero,Int.ediv_one] at S
          go_wp2_with (first|(refine g_load (ty:=44) rfl ?_;refine wl_load (ty:=44) S rfl rfl rfl (by repeat constructor) aggWd (by first|exact(Go.Arr.arr_size _ _ _).symm|rfl) ?_)|(refine g_store (ty:=44) rfl ?_;refine wl_store (ty:=44) S rfl rfl rfl rfl (by repeat(first|exact foc_hd|apply foc_tl)) aggWd (by first|exact(Go.Arr.arr_size _ _ _).symm|rfl) (by first|exact(Go.Arr.arr_size _ _ _).symm|rfl) (by first|exact Go.Arr.arr_one _ _ _|rfl|simp[Value.oneCell']) ?_;clear S;intro W S))
          refine Calm.ret_cell S (by rfl) (by rfl) (by repeat constructor) aggWd (arr_size _ _ _).symm (by rfl) ?_
          exact⟨rfl,S.below⟩
    · have h1 : ¬ (1 : Int) < (L : Int) := by omega
      clear hgo
      go_wp2_with fail
      clear h1
      obtain⟨P1,hP1⟩:∃ P:Nat,P=L+1:=⟨_,rfl⟩
      obtain⟨P2,hP2⟩:∃ P:Nat,P=L+2:=⟨_,rfl⟩
      obtain⟨C,hC⟩:∃ P:Nat,P=64*L:=⟨_,rfl⟩
      have p1:IntKind.i64.wrap ((L:Int)+1)=(P1:Int):=by rw[wrap_small _ (by omega) (by omega)];omega
      have p2:IntKind.i64.wrap ((L:Int)+2)=(P2:Int):=by rw[wrap_small _ (by omega) (by omega)];omega
      have p3:IntKind.i64.wrap (64*(L:Int))=(C:Int):=by rw[wrap_small _ (by omega) (by omega)];omega
      have i0:(L:Int)<8:=by omega
      have i1:(P1:Int)<8:=by omega
      have i2:(P2:Int)<8:=by omega
      have D0:=hide (arr_at .u64 8 (dig 18446744073709551616 N) L (by omega))
      have D1:=hide (arr_at .u64 8 (dig 18446744073709551616 N) P1 (by omega))
      have D2:=hide (arr_at .u64 8 (dig 18446744073709551616 N) P2 (by omega))
      have HC:=hide hC
      have hCb:C≤320:=by omega
      have HST:Hid (arr .u64 4 (dig 18446744073709551616 (N / 2 ^ (C - 0)%el))= #[.int .u64 (dig 18446744073709551616 N L),.int .u64 (dig 18446744073709551616 N P1),.int .u64 (dig 18446744073709551616 N P2),.int .u64 0]):=by unfold Hid;rw[hC,hP1,hP2];exact rest_start N L hN.1 hNL
      clear hP1 hP2 hC
      refine Calm.region1 S 13 12 4 (arr .u64 4 fun _=>0) 44 (by kernel_rfl) (by kernel_rfl) rfl rfl zeroWd (fun S=> ?_)
      iterate 2 (first|(refine wn_move rfl (by rfl) (Or.inl rfl) ?_;simp only[Act.put,Act.eval,zQ])|(apply wn_val rfl (by rfl);(intro w;go_simp;rfl);simp only[Act.put,Act.eval,zQ]))
      (refine Calm.gn_load (ty:=24) rfl ?_;refine wn_loadE (ty:=24) (b:=bN) (v:= .int .u64 (dig 18446744073709551616 N L)) S rfl (by rfl) rfl rfl (by repeat constructor) D0.out o64 ?_;simp only[Act.put,Act.eval,zQ])
      iterate 3 (first|(refine wn_move rfl (by rfl) (Or.inl rfl) ?_;simp only[Act.put,Act.eval,zQ])|(apply wn_val rfl (by rfl);(intro w;go_simp;rfl);simp only[Act.put,Act.eval,zQ]))
      (refine Calm.gn_load (ty:=24) rfl ?_;refine wn_loadE (ty:=24) (b:=bN) (v:= .int .u64 (dig 18446744073709551616 N P1)) S rfl (by rfl) rfl rfl (by repeat constructor) D1.out o64 ?_;simp only[Act.put,Act.eval,zQ])
      iterate 3 (first|(refine wn_move rfl (by rfl) (Or.inl rfl) ?_;simp only[Act.put,Act.eval,zQ])|(apply wn_val rfl (by rfl);(intro w;go_simp;rfl);simp only[Act.put,Act.eval,zQ]))
      (refine Calm.gn_load (ty:=24) rfl ?_;refine wn_loadE (ty:=24) (b:=bN) (v:= .int .u64 (dig 18446744073709551616 N P2)) S rfl (by rfl) rfl rfl (by repeat constructor) D2.out o64 ?_;simp only[Act.put,Act.eval,zQ])
      repeat(first|(refine wn_skip rfl ?_)|(apply wn_val rfl (by rfl);(intro w;go_simp;rfl);simp only[Act.put,Act.eval,zQ]))
      (refine wn_nil ?_;clear S;intro b W S;simp only[Act.put,List.setIfInBounds_toArray,List.set_cons_zero,List.set_cons_succ,List.drop_succ_cons,List.drop_zero,List.drop_nil])
      rename_i b4 _ _
      go_wp2_with ((refine g_store (ty:=44) rfl ?_;refine wl_store (ty:=44) S rfl rfl rfl rfl (by repeat(first|exact foc_hd|apply foc_tl)) aggWd (by first|exact(Go.Arr.arr_size _ _ _).symm|rfl) (by first|exact(Go.Arr.arr_size _ _ _).symm|rfl) (by first|exact Go.Arr.arr_one _ _ _|rfl|simp[Value.oneCell']) ?_;clear S;intro W S))
      clear D0 D1 D2 p1 p2 i1 i2
      rename_i K2 hK2
      go_loopw [32] (fun v Wr=>∃ k:Nat,k≤C∧v= .int .i64 k∧Calm.St w Wr [⟨b,arr .u64 4 (dig 18446744073709551616 (N / 2 ^ (C - k)%el)),44⟩,⟨bR,arr .u64 4 (fun _=>0),44⟩,⟨bN,arr .u64 8 (dig 18446744073709551616 N),47⟩]) (fun v _=>C - (intOf v).toNat)
      case atStart=>exact⟨0,by omega,rfl,by rw[HST.out];exact S⟩
      case round =>
        clear S
        obtain⟨k,hk,rfl,S⟩:=hrel
        by_cases hlt:k<C
        · obtain ⟨t, ht⟩ : ∃ t : Nat, t = C - 1 - k := ⟨_, rfl⟩
          obtain⟨q,hq⟩:∃ q:Nat,q=t / 64:=⟨_,rfl⟩
          obtain⟨r,hr⟩:∃ r:Nat,r=t%64:=⟨_,rfl⟩
          have hlt':(k:Int)<(C:Int):=by omega
          have hCL:=HC.out
          have f1:IntKind.i64.wrap ((C:Int) - 1)=(C:Int) - 1:=by rw[IntKind.wrap_i64];omega
          have f2:IntKind.i64.wrap ((C:Int) - 1 - (k:Int))=(t:Int):=by rw[IntKind.wrap_i64];omega
          have f3:IntKind.i64.wrap ((t:Int) / 64)=(q:Int):=by rw[wrap_small _ (by omega) (by omega)];omega
          have f4:(t:Int).tmod 64=(r:Int):=by rw[Int.tmod_eq_emod_of_nonneg (by omega)];omega
          have f5:(q:Int)<8:=by omega
          have f6:r≤64:=by omega
          have f7:IntKind.i64.wrap ((k:Int)+1)=(k:Int)+1:=by rw[IntKind.wrap_i64];omega
          obtain⟨x,hx⟩:∃ x:Int,x=dig 18446744073709551616 N q:=⟨_,rfl⟩
          have Hx:Hid ((arr .u64 8 (dig 18446744073709551616 N))[q]? =some (.int .u64 x)):=by rw[hx];exact arr_at _ _ _ q (by omega)
          have hxb:=dig_bd M_pos N q
          rw[← hx] at hxb
          obtain⟨c,hc⟩:∃ c:Int,c=x / 2 ^ r%2:=⟨_,rfl⟩
          have Hbit:Hid (c=N / 2 ^ t%2):=by unfold Hid;rw[hc,hx,wd1 N hN.1 q r (by omega),show 64*q+r=t by omega]
          have hc0:0≤c∧c<2:=by omega
          have hxr:0≤x / 2 ^ r∧x / 2 ^ r<18446744073709551616:=shr_bd x r hxb.1 hxb.2
          have ea:bits .and .u64 (x / 2 ^ r) 1=c:=by rw[and_one _ hxr.1 hxr.2,hc]
          obtain⟨R,hR⟩:∃ R:Int,R=N / 2 ^ (C - k)%el:=⟨_,rfl⟩
          have hRb:0≤R∧R<el:=by rw[hR];unfold el;omega
          have HN:Hid (N / 2 ^ (C - (k+1))%el=offL (2*R+c)):=by
            unfold Hid
            rw[Hbit.out,hR,show C - (k+1)=t by omega,show C - k=t+1 by omega]
            exact rest_next N t
          rw[← hR] at S
          have HR:=hide hR
          obtain⟨x0,x1,x2,x3,hX,a0,a0',a1,a1',a2,a2',a3,a3',hS⟩:=words4 R hRb.1 (by unfold el at hRb;omega)
          rw[hX] at S
          have a3'':x3≤1152921504606846976:=by unfold el at hRb;omega
          have e3:IntKind.u64.wrap (x3*2)=x3*2:=by rw[IntKind.wrap_u64];omega
          have e2:IntKind.u64.wrap (x2*2)=x2%9223372036854775808*2:=by rw[IntKind.wrap_u64];omega
          have e1:IntKind.u64.wrap (x1*2)=x1%9223372036854775808*2:=by rw[IntKind.wrap_u64];omega
          have e0:IntKind.u64.wrap (x0*2)=x0%9223372036854775808*2:=by rw[IntKind.wrap_u64];omega
          have o3:=or_bit x3 (x2 / 9223372036854775808) (by omega) (by omega) (by omega) (by omega)
          have o2:=or_bit (x2%9223372036854775808) (x1 / 9223372036854775808) (by omega) (by omega) (by omega) (by omega)
          have o1:=or_bit (x1%9223372036854775808) (x0 / 9223372036854775808) (by omega) (by omega) (by omega) (by omega)
          have o0:=or_bit (x0%9223372036854775808) c (by omega) (by omega) (by omega) (by omega)
          obtain⟨y3,hy3⟩:∃ y:Int,y=x3*2+x2 / 9223372036854775808:=⟨_,rfl⟩
          obtain⟨y2,hy2⟩:∃ y:Int,y=x2%9223372036854775808*2+x1 / 9223372036854775808:=⟨_,rfl⟩
          obtain⟨y1,hy1⟩:∃ y:Int,y=x1%9223372036854775808*2+x0 / 9223372036854775808:=⟨_,rfl⟩
          obtain⟨y0,hy0⟩:∃ y:Int,y=x0%9223372036854775808*2+c:=⟨_,rfl⟩
          have b3:0≤y3∧y3<18446744073709551616:=by omega
          have b2:0≤y2∧y2<18446744073709551616:=by omega
          have b1:0≤y1∧y1<18446744073709551616:=by omega
          have b0:0≤y0∧y0<18446744073709551616:=by omega
          have hY:2*R+c=y0+18446744073709551616*y1+340282366920938463463374607431768211456*y2+6277101735386680763835789423207666416102355444464034512896*y3:=by omega
          rw[← hy3] at o3
          rw[← hy2] at o2
          rw[← hy1] at o1
          rw[← hy0] at o0
          have HY:=hide hY
          rw[HY.out] at HN
          have g1:Hid (x2 / 9223372036854775808=x2 / 9223372036854775808):=rfl
          clear ht hCL hY hS hX hR hx hc hq hr hy0 hy1 hy2 hy3 g1 hRb
          go_wp2_with (first|(refine g_load (ty:=24) rfl ?_;refine wl_loadE (ty:=24) S rfl rfl rfl (by repeat constructor) (by rfl) o64 ?_)|(refine g_store (ty:=24) rfl ?_;refine wl_storeE (ty:=24) S rfl rfl rfl rfl (by rfl) (by repeat(first|exact foc_hd|apply foc_tl)) o64 (by simp) rfl ?_;clear S;intro W S;simp only[Act.eval,zQ] at S))
          refine Calm.region0 S 13 (by kernel_rfl) (by kernel_rfl) (fun S=> ?_)
          iterate 1 ((apply wn_val rfl (by rfl);(intro w;go_simp;rfl);simp only[Act.put,Act.eval,zQ]))
          (refine Calm.gn_load (ty:=24) rfl ?_;refine wn_loadE (ty:=24) (b:=b) (v:= .int .u64 x0) S rfl (by rfl) rfl rfl (by repeat constructor) (by rfl) o64 ?_;simp only[Act.put,Act.eval,zQ])
          iterate 4 (first|(refine wn_move rfl (by rfl) (Or.inl rfl) ?_;simp only[Act.put,Act.eval,zQ])|(apply wn_val rfl (by rfl);(intro w;go_simp;rfl);simp only[Act.put,Act.eval,zQ]))
          (refine Calm.gn_load (ty:=24) rfl ?_;refine wn_loadE (ty:=24) (b:=bN) (v:= .int .u64 x) S rfl (by rfl) rfl rfl (by repeat constructor) Hx.out o64 ?_;simp only[Act.put,Act.eval,zQ])
          repeat(first|(refine wn_move rfl (by rfl) (Or.inl rfl) ?_;simp only[Act.put,Act.eval,zQ])|(apply wn_val rfl (by rfl);(intro w;go_simp;rfl);simp only[Act.put,Act.eval,zQ]))
          (refine wn_nil ?_;clear S;intro W S;simp only[Act.put,List.setIfInBounds_toArray,List.set_cons_zero,List.set_cons_succ,List.drop_succ_cons,List.drop_zero,List.drop_nil])
          try rw[e0]
          try rw[ea]
          try rw[o0]
          by_cases hge:y3<1152921504606846976
          · go_wp2_with (first | (refine g_load (ty := 24) rfl ?_; refine wl_loadE (ty := 24) S rfl rfl rfl (by repeat constructor) (by rfl) o64 ?_) | (refine g_store (ty := 24) rfl ?_; refine wl_storeE (ty := 24) S rfl rfl rfl rfl (by rfl) (by repeat (first | exact foc_hd | apply foc_tl)) o64 (by simp) rfl ?_; clear S; intro W S; simp only [Act.eval, zQ] at S))
            go_roundw
            case rel=>exact⟨k+1,by omega,by go_num,by rw[HN.out,offL,if_pos (by unfold el;omega),dig4 y0 y1 y2 y3 _ b0.1 b0.2 b1.1 b1.2 b2.1 b2.2 b3.1 b3.2 rfl];exact S⟩
            case measure=>simp[intOf];omega
          · go_wp2_with (first | (refine g_load (ty := 24) rfl ?_; refine wl_loadE (ty := 24) S rfl rfl rfl (by repeat constructor) (by rfl) o64 ?_) | (refine g_store (ty := 24) rfl ?_; refine wl_storeE (ty := 24) S rfl rfl rfl rfl (by rfl) (by repeat (first | exact foc_hd | apply foc_tl)) o64 (by simp) rfl ?_; clear S; intro W S; simp only [Act.eval, zQ] at S))
            refine(takeOff_c y0 y1 y2 y3 b0.1 b0.2 b1.1 b1.2 b2.1 b2.2 b3.1 b3.2 w _ b _ S).mono ?_
            rintro e W1 ⟨rfl,S1⟩
            clear S
            have S:=S1
            clear S1
            go_wp2_with fail
            go_roundw
            case rel=>exact⟨k+1,by omega,by go_num,by rw[HN.out];exact S⟩
            case measure=>simp[intOf];omega
        · have hk' : k = C := by omega
          subst hk'
          rw[Nat.sub_self,Int.pow_zero,Int.ediv_one] at S
          go_wp2_with (first|(refine g_load (ty:=44) rfl ?_;refine wl_load (ty:=44) S rfl rfl rfl (by repeat constructor) aggWd (by first|exact(Go.Arr.arr_size _ _ _).symm|rfl) ?_)|(refine g_store (ty:=44) rfl ?_;refine wl_store (ty:=44) S rfl rfl rfl rfl (by repeat(first|exact foc_hd|apply foc_tl)) aggWd (by first|exact(Go.Arr.arr_size _ _ _).symm|rfl) (by first|exact(Go.Arr.arr_size _ _ _).symm|rfl) (by first|exact Go.Arr.arr_one _ _ _|rfl|simp[Value.oneCell']) ?_;clear S;intro W S))
          refine Calm.ret_cell S (by rfl) (by rfl) (by repeat constructor) aggWd (arr_size _ _ _).symm (by rfl) ?_
          exact⟨rfl,S.below⟩
end Go.Proofs.YtdebkddhpogkgaaGreat
