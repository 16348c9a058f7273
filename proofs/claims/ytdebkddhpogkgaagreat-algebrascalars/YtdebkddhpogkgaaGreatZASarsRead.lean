import Derived.Test.YtdebkddhpogkgaaGreatZASarsBytes
import Derived.Test.YtdebkddhpogkgaaGreatZASarsSchAll
set_option linter.unusedSimpArgs false
namespace Go.Proofs.YtdebkddhpogkgaaGreat
open Go.RowKit Go.Calm

theorem set_q0 (a b c d x:Value):(#[a,b,c,d]:Array Value).setIfInBounds 0 x= #[x,b,c,d]:=rfl
theorem set_q1 (a b c d x:Value):(#[a,b,c,d]:Array Value).setIfInBounds 1 x= #[a,x,c,d]:=rfl
theorem set_q2 (a b c d x:Value):(#[a,b,c,d]:Array Value).setIfInBounds 2 x= #[a,b,x,d]:=rfl
theorem set_q3 (a b c d x:Value):(#[a,b,c,d]:Array Value).setIfInBounds 3 x= #[a,b,c,x]:=rfl
theorem hi0 (t z:Int) (h0:0≤t) (h1:0≤z) (h2:t+z<18446744073709551616):(feC t)[0]? =some (.int .u64 t)∧(feC t).setIfInBounds 0 (.int .u64 (t+z))=feC (t+z):=by
  rw[feC_of t 0 0 0 t h0 (by omega) (by omega) (by omega) (by omega) (by omega) (by omega) (by omega) (by omega),set_q0,feC_of (t+z) 0 0 0 (t+z) (by omega) (by omega) (by omega) (by omega) (by omega) (by omega) (by omega) (by omega) (by omega)]
  exact⟨rfl,rfl⟩
theorem hi1 (a t z:Int) (ha:0≤a) (ha':a<18446744073709551616) (h0:0≤t) (h1:0≤z) (h2:t+z<18446744073709551616):(feC (a+18446744073709551616*t))[1]? =some (.int .u64 t)∧(feC (a+18446744073709551616*t)).setIfInBounds 1 (.int .u64 (t+z))=feC (a+18446744073709551616*(t+z)):=by
  rw[feC_of a t 0 0 (a+18446744073709551616*t) ha ha' h0 (by omega) (by omega) (by omega) (by omega) (by omega) (by omega),set_q1,feC_of a (t+z) 0 0 (a+18446744073709551616*(t+z)) ha ha' (by omega) (by omega) (by omega) (by omega) (by omega) (by omega) (by omega)]
  exact⟨rfl,rfl⟩
theorem hi2 (a t z:Int) (ha:0≤a) (ha':a<340282366920938463463374607431768211456) (h0:0≤t) (h1:0≤z) (h2:t+z<18446744073709551616):(feC (a+340282366920938463463374607431768211456*t))[2]? =some (.int .u64 t)∧(feC (a+340282366920938463463374607431768211456*t)).setIfInBounds 2 (.int .u64 (t+z))=feC (a+340282366920938463463374607431768211456*(t+z)):=by
  rw[feC_of (a%18446744073709551616) (a / 18446744073709551616) t 0 (a+340282366920938463463374607431768211456*t) (by omega) (by omega) (by omega) (by omega) h0 (by omega) (by omega) (by omega) (by omega),set_q2,feC_of (a%18446744073709551616) (a / 18446744073709551616) (t+z) 0 (a+340282366920938463463374607431768211456*(t+z)) (by omega) (by omega) (by omega) (by omega) (by omega) (by omega) (by omega) (by omega) (by omega)]
  exact⟨rfl,rfl⟩
theorem hi3 (a t z:Int) (ha:0≤a) (ha':a<6277101735386680763835789423207666416102355444464034512896) (h0:0≤t) (h1:0≤z) (h2:t+z<18446744073709551616):(feC (a+6277101735386680763835789423207666416102355444464034512896*t))[3]? =some (.int .u64 t)∧(feC (a+6277101735386680763835789423207666416102355444464034512896*t)).setIfInBounds 3 (.int .u64 (t+z))=feC (a+6277101735386680763835789423207666416102355444464034512896*(t+z)):=by
  rw[feC_of (a%18446744073709551616) (a / 18446744073709551616%18446744073709551616) (a / 340282366920938463463374607431768211456) t (a+6277101735386680763835789423207666416102355444464034512896*t) (by omega) (by omega) (by omega) (by omega) (by omega) (by omega) h0 (by omega) (by omega),set_q3,feC_of (a%18446744073709551616) (a / 18446744073709551616%18446744073709551616) (a / 340282366920938463463374607431768211456) (t+z) (a+6277101735386680763835789423207666416102355444464034512896*(t+z)) (by omega) (by omega) (by omega) (by omega) (by omega) (by omega) (by omega) (by omega) (by omega)]
  exact⟨rfl,rfl⟩

theorem rd_nat (N q r:Nat) (hr:r<8) (MQ:Nat) (hM:MQ=2 ^ (64*q)):
    N%256 ^ (8*q+r)=N%MQ+MQ*(N / MQ%2 ^ (8*r))∧N%256 ^ (8*q+r+1)=N%MQ+MQ*(N / MQ%2 ^ (8*r)+N / 256 ^ (8*q+r)%256*2 ^ (8*r))∧N / MQ%2 ^ (8*r)+N / 256 ^ (8*q+r)%256*2 ^ (8*r)<18446744073709551616:=by
  have e1:(256:Nat) ^ (8*q+r)=MQ*2 ^ (8*r):=by
    rw[hM,show(256:Nat)=2 ^ 8 from rfl,← Nat.pow_mul,← Nat.pow_add];congr 1;omega
  have e2:(256:Nat) ^ (8*q+r+1)=MQ*(2 ^ (8*r)*256):=by rw[Nat.pow_succ,e1,Nat.mul_assoc]
  have e3:N / MQ%(2 ^ (8*r)*256)=N / MQ%2 ^ (8*r)+2 ^ (8*r)*(N / MQ / 2 ^ (8*r)%256):=Nat.mod_mul
  have e4:N / MQ / 2 ^ (8*r)=N / 256 ^ (8*q+r):=by rw[e1,Nat.div_div_eq_div_mul]
  refine⟨by rw[e1];exact Nat.mod_mul,?_,?_⟩
  · rw[e2,Nat.mod_mul,e3,e4,Nat.mul_comm (2 ^ (8*r)) (N / 256 ^ (8*q+r)%256)]
  · have hp : 0 < 2 ^ (8 * r) := Nat.two_pow_pos _
    have h1:N / MQ%2 ^ (8*r)<2 ^ (8*r):=Nat.mod_lt _ hp
    have h2:N / 256 ^ (8*q+r)%256*2 ^ (8*r)≤255*2 ^ (8*r):=Nat.mul_le_mul_right _ (by omega)
    have h3:(2:Nat) ^ (8*r)≤2 ^ 56:=Nat.pow_le_pow_right (by omega) (by omega)
    omega

theorem rd_step (N:Int) (hN:Ok N) (k q r s:Nat) (hk:k=8*q+r) (hq:q<4) (hr:r<8) (hs:s=8*r):
    ∃ t z:Int,(feC (N%256 ^ k))[q]? =some (.int .u64 t)∧0≤t∧t<2 ^ s∧0≤z∧z<18446744073709551616∧t+z<18446744073709551616∧Hid (z=byt N k*2 ^ s)∧(feC (N%256 ^ k)).setIfInBounds q (.int .u64 (t+z))=feC (N%256 ^ (k+1)):=by
  unfold Ok at hN
  obtain⟨Y,rfl⟩:=Int.eq_ofNat_of_zero_le hN.1
  have hYb:Y<115792089237316195423570985008687907853269984665640564039457584007913129639936:=by omega
  obtain⟨t,ht⟩:∃ t:Nat,t=Y / 2 ^ (64*q)%2 ^ (8*r):=⟨_,rfl⟩
  obtain⟨z,hz⟩:∃ z:Nat,z=Y / 256 ^ (8*q+r)%256*2 ^ (8*r):=⟨_,rfl⟩
  obtain⟨f1,f2,f3⟩:=rd_nat Y q r hr (2 ^ (64*q)) rfl
  rw[← ht] at f1 f2 f3
  rw[← hz] at f2 f3
  have ht2:t<2 ^ s:=by rw[ht,hs];exact Nat.mod_lt _ (Nat.two_pow_pos _)
  have c1:((Y:Int)%256 ^ k)=((Y%2 ^ (64*q)+2 ^ (64*q)*t:Nat):Int):=by rw[← f1,hk,Int.natCast_emod,Int.natCast_pow];rfl
  have c2:((Y:Int)%256 ^ (k+1))=((Y%2 ^ (64*q)+2 ^ (64*q)*(t+z):Nat):Int):=by rw[← f2,hk,Int.natCast_emod,Int.natCast_pow];rfl
  have c3:(z:Int)=byt (Y:Int) k*2 ^ s:=by
    rw[hz,hk,hs];unfold byt
    rw[Int.natCast_mul,Int.natCast_emod,Int.natCast_ediv,Int.natCast_pow,Int.natCast_pow];rfl
  have c4:(t:Int)<2 ^ s:=by
    have h:=Int.ofNat_lt.2 ht2
    rw[Int.natCast_pow] at h;exact h
  rw[c1,c2]
  refine⟨t,z,?_,by omega,c4,by omega,by omega,by omega,c3,?_⟩
  all_goals
    have c:q=0∨q=1∨q=2∨q=3:=by omega
    rcases c with rfl|rfl|rfl|rfl
  · rw [show ((Y % 2 ^ (64 * 0) + 2 ^ (64 * 0) * t : Nat) : Int) = (t : Int) from by rw [show 2 ^ (64 * 0) = 1 from rfl]; omega]
    exact(hi0 t z (by omega) (by omega) (by omega)).1
  · rw [show ((Y % 2 ^ (64 * 1) + 2 ^ (64 * 1) * t : Nat) : Int) = ((Y % 18446744073709551616 : Nat) : Int) + 18446744073709551616 * (t : Int) from by rw [show 2 ^ (64 * 1) = 18446744073709551616 from rfl]; omega]
    exact(hi1 _ t z (by omega) (by omega) (by omega) (by omega) (by omega)).1
  · rw [show ((Y % 2 ^ (64 * 2) + 2 ^ (64 * 2) * t : Nat) : Int) = ((Y % 340282366920938463463374607431768211456 : Nat) : Int) + 340282366920938463463374607431768211456 * (t : Int) from by rw [show 2 ^ (64 * 2) = 340282366920938463463374607431768211456 from rfl]; omega]
    exact(hi2 _ t z (by omega) (by omega) (by omega) (by omega) (by omega)).1
  · rw [show ((Y % 2 ^ (64 * 3) + 2 ^ (64 * 3) * t : Nat) : Int) = ((Y % 6277101735386680763835789423207666416102355444464034512896 : Nat) : Int) + 6277101735386680763835789423207666416102355444464034512896 * (t : Int) from by rw [show 2 ^ (64 * 3) = 6277101735386680763835789423207666416102355444464034512896 from rfl]; omega]
    exact(hi3 _ t z (by omega) (by omega) (by omega) (by omega) (by omega)).1
  · rw [show ((Y % 2 ^ (64 * 0) + 2 ^ (64 * 0) * t : Nat) : Int) = (t : Int) from by rw [show 2 ^ (64 * 0) = 1 from rfl]; omega, show ((Y % 2 ^ (64 * 0) + 2 ^ (64 * 0) * (t + z) : Nat) : Int) = (t : Int) + z from by rw [show 2 ^ (64 * 0) = 1 from rfl]; omega]
    exact(hi0 t z (by omega) (by omega) (by omega)).2
  · rw [show ((Y % 2 ^ (64 * 1) + 2 ^ (64 * 1) * t : Nat) : Int) = ((Y % 18446744073709551616 : Nat) : Int) + 18446744073709551616 * (t : Int) from by rw [show 2 ^ (64 * 1) = 18446744073709551616 from rfl]; omega, show ((Y % 2 ^ (64 * 1) + 2 ^ (64 * 1) * (t + z) : Nat) : Int) = ((Y % 18446744073709551616 : Nat) : Int) + 18446744073709551616 * ((t : Int) + z) from by rw [show 2 ^ (64 * 1) = 18446744073709551616 from rfl]; omega]
    exact(hi1 _ t z (by omega) (by omega) (by omega) (by omega) (by omega)).2
  · rw [show ((Y % 2 ^ (64 * 2) + 2 ^ (64 * 2) * t : Nat) : Int) = ((Y % 340282366920938463463374607431768211456 : Nat) : Int) + 340282366920938463463374607431768211456 * (t : Int) from by rw [show 2 ^ (64 * 2) = 340282366920938463463374607431768211456 from rfl]; omega, show ((Y % 2 ^ (64 * 2) + 2 ^ (64 * 2) * (t + z) : Nat) : Int) = ((Y % 340282366920938463463374607431768211456 : Nat) : Int) + 340282366920938463463374607431768211456 * ((t : Int) + z) from by rw [show 2 ^ (64 * 2) = 340282366920938463463374607431768211456 from rfl]; omega]
    exact(hi2 _ t z (by omega) (by omega) (by omega) (by omega) (by omega)).2
  · rw [show ((Y % 2 ^ (64 * 3) + 2 ^ (64 * 3) * t : Nat) : Int) = ((Y % 6277101735386680763835789423207666416102355444464034512896 : Nat) : Int) + 6277101735386680763835789423207666416102355444464034512896 * (t : Int) from by rw [show 2 ^ (64 * 3) = 6277101735386680763835789423207666416102355444464034512896 from rfl]; omega, show ((Y % 2 ^ (64 * 3) + 2 ^ (64 * 3) * (t + z) : Nat) : Int) = ((Y % 6277101735386680763835789423207666416102355444464034512896 : Nat) : Int) + 6277101735386680763835789423207666416102355444464034512896 * ((t : Int) + z) from by rw [show 2 ^ (64 * 3) = 6277101735386680763835789423207666416102355444464034512896 from rfl]; omega]
    exact(hi3 _ t z (by omega) (by omega) (by omega) (by omega) (by omega)).2

theorem or_add (t z d:Int) (s:Nat) (h0:0≤t) (h1:t<2 ^ s) (hd:0≤d) (hz:z=d*2 ^ s) (h2:t+z<18446744073709551616) (hz0:0≤z):bits .or .u64 t z=t+z:=by
  obtain⟨T,rfl⟩:=Int.eq_ofNat_of_zero_le h0
  obtain⟨D,rfl⟩:=Int.eq_ofNat_of_zero_le hd
  have hT:T<2 ^ s:=by
    have h:(T:Int)<((2 ^ s:Nat):Int):=by rw[Int.natCast_pow];exact h1
    exact Int.ofNat_lt.1 h
  have ez:z=((2 ^ s*D:Nat):Int):=by rw[hz,Int.natCast_mul,Int.natCast_pow,Int.mul_comm];rfl
  subst ez
  have h:=bits_or_u64_nat T (2 ^ s*D) (by omega) (by omega)
  rw[Nat.or_comm,← Nat.two_pow_add_eq_or_of_lt hT D] at h
  rw[h];omega
theorem byC_at (N:Int) (k:Nat) (hk:k<32):(byC N)[k]? =some (.int .u8 (byt N k)):=by
  unfold byC byK
  simp[hk]

set_option maxHeartbeats 1000000 in
theorem Read_c (N:Int) (hN:Ok N) (w:World):Calls Tryz.prog 53 #[.agg (byC N)] w fun e w'=>e= .returned (.tuple #[.agg (feC (N%pr)),.bool (decide (N%pr=N))])∧Below w.heap.size w w':=by
  have S:=Calm.St.start w
  go_enter Tryz.func53,Tryz.ntmps53
  go_wp2_with (first|(refine wl_box S rfl rfl rfl ?_;clear S;intro b W S)|(refine wl_new (ty:=58) S rfl rfl zeroFe ?_;clear S;intro b W S))
  rename_i bB _ K hK
  go_loopw [6] (fun i Wr=>∃ k:Nat,k≤32∧i= .int .i64 k∧Calm.St w Wr [⟨b,feC (N%256 ^ k),58⟩,⟨bB,byC N,22⟩]) (fun i _=>32 - (intOf i).toNat)
  case atStart=>exact⟨0,by omega,rfl,by rw[show N%256 ^ 0=0 from by simp,feC_0];exact S⟩
  case round =>
    clear S
    obtain⟨k,hk,rfl,S⟩:=hrel
    by_cases hlt:k<32
    · obtain ⟨q, hq⟩ : ∃ q : Nat, q = k / 8 := ⟨_, rfl⟩
      obtain⟨r,hr⟩:∃ r:Nat,r=k%8:=⟨_,rfl⟩
      obtain⟨s,hs⟩:∃ s:Nat,s=8*r:=⟨_,rfl⟩
      have g1:IntKind.i64.wrap ((k:Int) / 8)=(q:Int):=by rw[wrap_small _ (by omega) (by omega)];omega
      have g2:(k:Int).tmod 8=(r:Int):=by rw[Int.tmod_eq_emod_of_nonneg (by omega)];omega
      have g3:IntKind.i64.wrap ((r:Int)*8)=(s:Int):=by rw[wrap_small _ (by omega) (by omega)];omega
      have g4:(q:Int)<4:=by omega
      have g5:(k:Int)<32:=by omega
      have hs64:s≤64:=by omega
      obtain⟨t,z,hx,t0,t1,z0,z1,z2,HZ,hn⟩:=rd_step N hN k q r s (by omega) (by omega) (by omega) hs
      obtain⟨d0,d1⟩:=byt_bd N k
      have Hx:=hide hx
      have Hn:=hide hn
      have Hb:=hide (byC_at N k hlt)
      have g0:IntKind.u64.wrap (byt N k)=byt N k:=by rw[IntKind.wrap_u64];omega
      have g6:IntKind.u64.wrap (byt N k*2 ^ s)=z:=by rw[IntKind.wrap_u64,← HZ.out];omega
      have g7:=or_add t z (byt N k) s t0 t1 d0 HZ.out z2 z0
      clear hx hn hq hr hs t1
      go_wp2_with (first|(refine wl_box S rfl rfl rfl ?_;clear S;intro b W S)|(refine wl_new (ty:=58) S rfl rfl zeroFe ?_;clear S;intro b W S)|(refine g_load (ty:=58) rfl ?_;refine wl_load (ty:=58) S rfl rfl rfl (by repeat constructor) aggFe (by rfl) ?_)|(refine g_store (ty:=58) rfl ?_;refine wl_store (ty:=58) S rfl rfl rfl rfl (by repeat(first|exact foc_hd|apply foc_tl)) aggFe rfl (by rfl) (w4_one _ _ _ _) ?_;clear S;intro W S)|(refine g_load (ty:=24) rfl ?_;refine wl_loadE (ty:=24) S rfl rfl rfl (by repeat constructor) (by rfl) one64 ?_)|(refine g_store (ty:=24) rfl ?_;refine wl_storeE (ty:=24) S rfl rfl rfl rfl (by rfl) (by repeat(first|exact foc_hd|apply foc_tl)) one64 (by simp) rfl ?_;clear S;intro W S;simp only[Act.eval,zQ] at S))
      refine Calm.region0 S 14 (by kernel_rfl) (by kernel_rfl) (fun S=> ?_)
      iterate 3 (first|(refine wn_move rfl (by rfl) (Or.inl rfl) ?_;simp only[Act.put,Act.eval,zQ])|(apply wn_val rfl (by rfl);(intro w;go_simp;rfl);simp only[Act.put,Act.eval,zQ]))
      refine Calm.gn_load (ty:=24) rfl ?_
      refine wn_loadE (ty:=24) (b:=b) (v:= .int .u64 t) S rfl (by rfl) rfl rfl (by repeat constructor) Hx.out one64 ?_
      simp only[Act.put,Act.eval,zQ]
      iterate 2 (first|(refine wn_move rfl (by rfl) (Or.inl rfl) ?_;simp only[Act.put,Act.eval,zQ])|(apply wn_val rfl (by rfl);(intro w;go_simp;rfl);simp only[Act.put,Act.eval,zQ]))
      refine Calm.gn_load (ty:=5) rfl ?_
      refine wn_loadE (ty:=5) (b:=bB) (v:= .int .u8 (byt N k)) S rfl (by rfl) rfl rfl (by repeat constructor) Hb.out oneBy ?_
      simp only[Act.put,Act.eval,zQ]
      repeat(first|(refine wn_move rfl (by rfl) (Or.inl rfl) ?_;simp only[Act.put,Act.eval,zQ])|(apply wn_val rfl (by rfl);(intro w;go_simp;rfl);simp only[Act.put,Act.eval,zQ]))
      (refine wn_nil ?_;clear S;intro W S;simp only[Act.put,List.setIfInBounds_toArray,List.set_cons_zero,List.set_cons_succ,List.drop_succ_cons,List.drop_zero,List.drop_nil])
      refine wl_storeE (ty:=24) (b:=b) (cs:=feC (N%256 ^ (k+1))) S rfl rfl rfl rfl Hn.out.symm (by repeat(first|exact foc_hd|apply foc_tl)) one64 (by rw[feC_size];omega) rfl ?_
      clear S
      intro W S
      go_wp2_with (first|(refine wl_box S rfl rfl rfl ?_;clear S;intro b W S)|(refine wl_new (ty:=58) S rfl rfl zeroFe ?_;clear S;intro b W S)|(refine g_load (ty:=58) rfl ?_;refine wl_load (ty:=58) S rfl rfl rfl (by repeat constructor) aggFe (by rfl) ?_)|(refine g_store (ty:=58) rfl ?_;refine wl_store (ty:=58) S rfl rfl rfl rfl (by repeat(first|exact foc_hd|apply foc_tl)) aggFe rfl (by rfl) (w4_one _ _ _ _) ?_;clear S;intro W S)|(refine g_load (ty:=24) rfl ?_;refine wl_loadE (ty:=24) S rfl rfl rfl (by repeat constructor) (by rfl) one64 ?_)|(refine g_store (ty:=24) rfl ?_;refine wl_storeE (ty:=24) S rfl rfl rfl rfl (by rfl) (by repeat(first|exact foc_hd|apply foc_tl)) one64 (by simp) rfl ?_;clear S;intro W S;simp only[Act.eval,zQ] at S))
      go_roundw
      case rel=>exact⟨k+1,by omega,by go_num,S⟩
      case measure=>simp[intOf];omega
    · have hk' : k = 32 := by omega
      subst hk'
      rw[show N%256 ^ 32=N from Int.emod_eq_of_lt hN.1 hN.2] at S
      go_wp2_with ((refine g_load (ty:=58) rfl ?_;refine wl_load (ty:=58) S rfl rfl rfl (by repeat constructor) aggFe (by rfl) ?_))
      refine(Canon_c N hN _).mono ?_
      rintro e W1 ⟨rfl,hb⟩
      have S:=S.call hb
      clear hb
      go_wp2_with (first|(refine wl_new (ty:=58) S rfl rfl zeroFe ?_;clear S;intro b W S)|(refine g_store (ty:=58) rfl ?_;refine wl_store (ty:=58) S rfl rfl rfl rfl (by repeat(first|exact foc_hd|apply foc_tl)) aggFe rfl (by rfl) (w4_one _ _ _ _) ?_;clear S;intro W S))
      refine Calm.region_sched S [(0,true),(1,true),(2,false),(3,true),(4,false),(5,false)] [⟨b,feC (N%pr),58⟩] (by kernel_rfl) (by kernel_rfl) (by simp) (by intro c a d v w h;cases d<;>exact h) (fun S=> ?_)
      refine wh_load (ty:=58) rfl (by rfl) rfl rfl (by repeat constructor) aggFe (by simp only[feC_size]) ?_
      simp only[List.getElem_toArray,List.getElem_cons_succ,List.getElem_cons_zero,Act.put,Act.eval,zQ]
      refine wh_load (ty:=58) rfl (by rfl) rfl rfl (by repeat constructor) aggFe (by simp only[feC_size]) ?_
      simp only[List.getElem_toArray,List.getElem_cons_succ,List.getElem_cons_zero,Act.put,Act.eval,zQ]
      refine Calm.whB_load (ty:=58) S (by simp) rfl (by rfl) rfl rfl (by repeat constructor) aggFe (by simp only[feC_size]) ?_
      simp only[List.getElem_toArray,List.getElem_cons_succ,List.getElem_cons_zero,Act.put,Act.eval,zQ]
      refine wh_val (v:= .bool (decide (N%pr=N))) rfl (by rfl) (eqFe_run (ok_mod _) hN rfl rfl rfl) ?_
      simp only[List.getElem_toArray,List.getElem_cons_succ,List.getElem_cons_zero,Act.put,Act.eval,zQ]
      refine Calm.whB_store (ty:=58) S rfl (by rfl) rfl rfl rfl (by repeat(first|exact foc_hd|apply foc_tl)) aggFe rfl (by simp only[feC_size]) (w4_one _ _ _ _) (by simp) ?_
      clear S
      intro W S
      simp only[List.getElem_toArray,List.getElem_cons_succ,List.getElem_cons_zero,Act.put,Act.eval,zQ]
      refine Calm.whB_val (v:= .bool (decide (N%pr=N))) S (by simp) rfl (by rfl) (fun w=>by rfl) ?_
      simp only[List.getElem_toArray,List.getElem_cons_succ,List.getElem_cons_zero,Act.put,Act.eval,zQ]
      refine wh_nil ?_
      go_wp2_with (first|(refine wl_box S rfl rfl rfl ?_;clear S;intro b W S)|(refine wl_new (ty:=58) S rfl rfl zeroFe ?_;clear S;intro b W S)|(refine g_load (ty:=58) rfl ?_;refine wl_load (ty:=58) S rfl rfl rfl (by repeat constructor) aggFe (by rfl) ?_)|(refine g_store (ty:=58) rfl ?_;refine wl_store (ty:=58) S rfl rfl rfl rfl (by repeat(first|exact foc_hd|apply foc_tl)) aggFe rfl (by rfl) (w4_one _ _ _ _) ?_;clear S;intro W S)|(refine g_load (ty:=24) rfl ?_;refine wl_loadE (ty:=24) S rfl rfl rfl (by repeat constructor) (by rfl) one64 ?_)|(refine g_store (ty:=24) rfl ?_;refine wl_storeE (ty:=24) S rfl rfl rfl rfl (by rfl) (by repeat(first|exact foc_hd|apply foc_tl)) one64 (by simp) rfl ?_;clear S;intro W S;simp only[Act.eval,zQ] at S))
      refine ret_tuple (v:= .bool (decide (N%pr=N))) S (by rfl) (by rfl) (by repeat constructor) aggFe (by simp only[feC_size]) (by rfl) (by rfl) ?_
      exact⟨rfl,S.below⟩
end Go.Proofs.YtdebkddhpogkgaaGreat
