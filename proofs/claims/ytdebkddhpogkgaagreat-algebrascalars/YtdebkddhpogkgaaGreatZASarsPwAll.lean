import Derived.Test.YtdebkddhpogkgaaGreatZASarsNeg
import Derived.Test.YtdebkddhpogkgaaGreatZASarsMidArr
import Derived.LoopTactic
set_option linter.unusedSimpArgs false
namespace Go.Proofs.YtdebkddhpogkgaaGreat
open Go.RowKit Go.Calm

def pwG (A:Int) (k:Nat):Nat→List Value:=fun j=>(feC (if j≤k then A ^ j%pr else 0)).toList
def zG:Nat→List Value:=fun _=>(feC 0).toList
theorem aggTab:Calm.AggT Tryz.prog 122 64:=⟨⟨_,Tryz.underlying122,rfl⟩,by kernel_rfl⟩
theorem zeroTab:(Tryz.prog.info? 122).bind (·.zero)=some (.agg (Calm.flat zG 16).toArray):=by kernel_rfl
theorem tab_size (g:Nat→List Value) (h:∀ j,(g j).length=4):(Calm.flat g 16).toArray.size=64:=by
  have:=Calm.flat_length h 16
  simpa using this
theorem tab_one (g:Nat→Int):((Calm.flat (fun j=>(feC (g j)).toList) 16).toArray).all (·.oneCell')=true:=by
  simp[Calm.flat,feC,Value.oneCell']
theorem wrap_small (n:Int) (h0:0≤n) (h1:n<9223372036854775808):IntKind.i64.wrap n=n:=by
  simp only[IntKind.wrap,IntKind.signed,IntKind.bits]
  simp
  omega
theorem tab_first (A:Int):Calm.updL zG 0 (feC 1).toList=pwG A 0:=by
  funext j
  unfold Calm.updL pwG zG
  by_cases h:j=0
  · subst h;simp[pr]
  · rw[if_neg h,if_neg (by omega)]
theorem tab_next (A:Int) (k:Nat) (X:Int) (hX:X=A ^ (k+1)%pr):Calm.updL (pwG A k) (k+1) (feC X).toList=pwG A (k+1):=by
  funext j
  unfold Calm.updL pwG
  by_cases h:j=k+1
  · subst h;simp[hX]
  · rw [if_neg h]
    by_cases h2:j≤k
    · rw[if_pos h2,if_pos (by omega)]
    · rw[if_neg h2,if_neg (by omega)]
theorem pow_next (A:Int) (k:Nat):A ^ k%pr*A%pr=A ^ (k+1)%pr:=by
  rw[Int.pow_succ,Int.mul_emod,Int.emod_emod_of_dvd _ (Int.dvd_refl _),← Int.mul_emod]

set_option maxHeartbeats 1000000 in
theorem firstPowers_c (A : Int) (hA : Ok A) (w : World) : Calls Tryz.prog 102 #[.agg (feC A)] w fun e w' => e = .returned (.agg (Calm.flat (pwG A 15) 16).toArray) ∧ Below w.heap.size w w' := by
  have S:=Calm.St.start w
  go_enter Tryz.func102,Tryz.ntmps102
  go_wp2_with (first|(refine wl_box S rfl rfl rfl ?_;clear S;intro b W S)|(refine wl_new (ty:=122) S rfl rfl zeroTab ?_;clear S;intro b W S))
  refine(Of_c 1 (by omega) (by omega) _).mono ?_
  rintro e W1 ⟨rfl,hb⟩
  have S:=S.call hb
  clear hb
  have hs:=Calm.flat_splice (g:=zG) (m:=4) (i:=0) (n:=16) (fun j=>rfl) (by omega) (feC 1).toList rfl
  rw[tab_first A] at hs
  have Hs:=hide hs
  clear hs
  go_wp2_with (first|(refine wl_storeM (ty:=58) (b:=b) (new:=(Calm.flat (pwG A 0) 16).toArray) S rfl rfl rfl rfl (by repeat(first|exact foc_hd|apply foc_tl)) aggFe rfl (by rw[tab_size _ (fun _=>rfl)];exact(by decide:0+4≤64)) (w4_one _ _ _ _) Hs.out ?_;clear S;intro W S))
  rename_i bA WA bR WR WL W2 K hK
  go_loopw [7] (fun i Wr=>∃ k:Nat,k≤15∧i= .int .i64 k∧Calm.St w Wr [⟨b,(Calm.flat (pwG A k) 16).toArray,122⟩,⟨bR,(Calm.flat zG 16).toArray,122⟩,⟨bA,feC A,58⟩]) (fun i _=>15 - (intOf i).toNat)
  case atStart=>exact⟨0,by omega,rfl,S⟩
  case round =>
    clear S
    obtain⟨k,hk,rfl,S⟩:=hrel
    by_cases hlt:k<15
    · have i1 : (k : Int) < 16 := by omega
      have i2:(k:Int)+1<16:=by omega
      have i3:IntKind.i64.wrap ((k:Int)+1)=(k:Int)+1:=wrap_small _ (by omega) (by omega)
      have Ht:Hid ((Calm.flat (pwG A k) 16).toArray.extract (k*4) (k*4+4)=feC (A ^ k%pr)):=by
        have h:=Calm.flat_take (g:=pwG A k) (m:=4) (fun _=>rfl) (i:=k) (n:=16) (by omega)
        rw[Nat.mul_comm 4 k] at h
        unfold Hid
        rw[h]
        simp[pwG]
      have Hn:Hid (Calm.splice (Calm.flat (pwG A k) 16).toArray ((k+1)*4) (feC (A ^ k%pr*A%pr))=(Calm.flat (pwG A (k+1)) 16).toArray):=by
        have h:=Calm.flat_splice (g:=pwG A k) (m:=4) (fun _=>rfl) (i:=k+1) (n:=16) (by omega) (feC (A ^ k%pr*A%pr)).toList rfl
        rw[Nat.mul_comm 4 (k+1),tab_next A k _ (pow_next A k)] at h
        exact h
      go_wp2_with (first|(refine wl_box S rfl rfl rfl ?_;clear S;intro b W S)|(refine wl_new (ty:=58) S rfl rfl zeroFe ?_;clear S;intro b W S)|(refine g_load (ty:=58) rfl ?_;refine wl_load (ty:=58) S rfl rfl rfl (by repeat constructor) aggFe (by rfl) ?_)|(refine g_store (ty:=58) rfl ?_;refine wl_store (ty:=58) S rfl rfl rfl rfl (by repeat(first|exact foc_hd|apply foc_tl)) aggFe rfl (by rfl) (w4_one _ _ _ _) ?_;clear S;intro W S)|(refine g_load (ty:=24) rfl ?_;refine wl_loadE (ty:=24) S rfl rfl rfl (by repeat constructor) (by rfl) one64 ?_)|(refine g_store (ty:=24) rfl ?_;refine wl_storeE (ty:=24) S rfl rfl rfl rfl (by rfl) (by repeat(first|exact foc_hd|apply foc_tl)) one64 (by simp) rfl ?_;clear S;intro W S;simp only[Act.eval,zQ] at S))
      refine Calm.region0 S 8 (by kernel_rfl) (by kernel_rfl) (fun S=> ?_)
      iterate 4 (first|(refine wn_move rfl (by rfl) (Or.inl rfl) ?_;simp only[Act.put,Act.eval,zQ])|(apply wn_val rfl (by rfl);(intro w;go_simp;rfl);simp only[Act.put,Act.eval,zQ]))
      refine Calm.gn_load (ty:=58) rfl ?_
      refine wn_loadM (ty:=58) (b:=b) (cs:=feC (A ^ k%pr)) S rfl (by rfl) rfl rfl (by repeat constructor) aggFe rfl Ht.out ?_
      simp only[Act.put,Act.eval,zQ]
      repeat(first|(refine Calm.gn_load (ty:=58) rfl ?_;refine wn_load (ty:=58) S rfl (by rfl) rfl rfl (by repeat constructor) aggFe (by rfl) ?_;simp only[Act.put,Act.eval,zQ])|(apply wn_call (f:=56) rfl (by rfl) rfl;(intro w;go_simp;rfl);(intro w;exact Mul_c _ _ (by first|exact ok_mod _|assumption) (by first|exact ok_mod _|assumption) w);simp only[Act.put,Act.eval,zQ])|(apply wn_val rfl (by rfl);(intro w;go_simp;rfl);simp only[Act.put,Act.eval,zQ]))
      (refine wn_nil ?_;clear S;intro W S;simp only[Act.put,List.setIfInBounds_toArray,List.set_cons_zero,List.set_cons_succ,List.drop_succ_cons,List.drop_zero,List.drop_nil])
      refine wl_storeM (ty:=58) (b:=b) (new:=(Calm.flat (pwG A (k+1)) 16).toArray) S rfl rfl rfl rfl (by repeat(first|exact foc_hd|apply foc_tl)) aggFe rfl (by rw[tab_size _ (fun _=>rfl),feC_size];omega) (w4_one _ _ _ _) Hn.out ?_
      clear S
      intro W S
      go_wp2_with (first|(refine wl_box S rfl rfl rfl ?_;clear S;intro b W S)|(refine wl_new (ty:=58) S rfl rfl zeroFe ?_;clear S;intro b W S)|(refine g_load (ty:=58) rfl ?_;refine wl_load (ty:=58) S rfl rfl rfl (by repeat constructor) aggFe (by rfl) ?_)|(refine g_store (ty:=58) rfl ?_;refine wl_store (ty:=58) S rfl rfl rfl rfl (by repeat(first|exact foc_hd|apply foc_tl)) aggFe rfl (by rfl) (w4_one _ _ _ _) ?_;clear S;intro W S)|(refine g_load (ty:=24) rfl ?_;refine wl_loadE (ty:=24) S rfl rfl rfl (by repeat constructor) (by rfl) one64 ?_)|(refine g_store (ty:=24) rfl ?_;refine wl_storeE (ty:=24) S rfl rfl rfl rfl (by rfl) (by repeat(first|exact foc_hd|apply foc_tl)) one64 (by simp) rfl ?_;clear S;intro W S;simp only[Act.eval,zQ] at S))
      go_roundw
      case rel=>exact⟨k+1,by omega,by go_num,S⟩
      case measure=>simp[intOf];omega
    · have hk' : k = 15 := by omega
      subst hk'
      go_wp2_with (first|(refine g_load (ty:=122) rfl ?_;refine wl_load (ty:=122) S rfl rfl rfl (by repeat constructor) aggTab (by rw[tab_size _ (fun _=>rfl)]) ?_)|(refine g_store (ty:=122) rfl ?_;refine wl_store (ty:=122) S rfl rfl rfl rfl (by repeat(first|exact foc_hd|apply foc_tl)) aggTab (by rw[tab_size _ (fun _=>rfl)]) (by rw[tab_size _ (fun _=>rfl)]) (tab_one _) ?_;clear S;intro W S))
      refine Calm.ret_cell S (by rfl) (by rfl) (by repeat constructor) aggTab (by rw[tab_size _ (fun _=>rfl)]) (by rfl) ?_
      exact⟨rfl,S.below⟩
end Go.Proofs.YtdebkddhpogkgaaGreat

set_option linter.unusedSimpArgs false
namespace Go.Proofs.YtdebkddhpogkgaaGreat
open Go.RowKit Go.Calm

def pm (A:Int) (n:Nat):Int:=A ^ n%pr
theorem pm_add (A:Int) (n m:Nat):pm A n*pm A m%pr=pm A (n+m):=by
  unfold pm
  rw[← Int.mul_emod,← Int.pow_add]
theorem pm_0 (A:Int):pm A 0=1:=by unfold pm pr;simp
theorem ok_pm (A:Int) (n:Nat):Ok (pm A n):=ok_mod _
def eK (E:Int) (k:Nat):Nat:=E.toNat / 16 ^ (64 - k)
theorem eK_0 (E:Int) (hE:Ok E):eK E 0=0:=by
  unfold eK Ok at*
  refine Nat.div_eq_of_lt ?_
  have:(16:Nat) ^ (64 - 0)=115792089237316195423570985008687907853269984665640564039457584007913129639936:=by decide
  omega
theorem eK_64 (E:Int):eK E 64=E.toNat:=by unfold eK;simp
theorem eK_step (E:Int) (k:Nat) (hk:k<64):eK E (k+1)=16*eK E k+E.toNat / 16 ^ (63 - k)%16:=by
  unfold eK
  have h1:64 - (k+1)=63 - k:=by omega
  have h2:64 - k=(63 - k)+1:=by omega
  rw[h1,h2,Nat.pow_succ,← Nat.div_div_eq_div_mul]
  omega

theorem wd_at (E:Int) (hE:Ok E) (q r:Nat) (hq:q<4) (hr:r<16):∃ x:Int,(feC E)[q]? =some (.int .u64 x)∧0≤x∧x<18446744073709551616∧Hid (x.toNat / 2 ^ (4*r)%16=E.toNat / 16 ^ (16*q+r)%16):=by
  unfold Ok at hE
  have key : ∀ q, q < 4 → (E.toNat / 2 ^ (64 * q) % 18446744073709551616) / 2 ^ (4 * r) % 16 = E.toNat / 16 ^ (16 * q + r) % 16 := by
    intro q _
    have e1:(16:Nat) ^ (16*q+r)=2 ^ (64*q)*2 ^ (4*r):=by
      rw[show(16:Nat)=2 ^ 4 from rfl,← Nat.pow_mul,← Nat.pow_add];congr 1;omega
    have e2:(18446744073709551616:Nat)=2 ^ (4*r)*(2 ^ (60 - 4*r)*16):=by
      rw[← Nat.mul_assoc,← Nat.pow_add,show 4*r+(60 - 4*r)=60 by omega]
    rw[e1,← Nat.div_div_eq_div_mul]
    generalize E.toNat / 2 ^ (64*q)=y
    rw[e2,Nat.mod_mul_right_div_self,Nat.mod_mul_left_mod]
  have c:q=0∨q=1∨q=2∨q=3:=by omega
  rcases c with rfl|rfl|rfl|rfl
  · refine ⟨E % 18446744073709551616, rfl, by omega, by omega, ?_⟩
    have:=key 0 (by omega)
    unfold Hid
    rw[← this]
    congr 2
    rw[show 2 ^ (64*0)=1 from rfl]
    omega
  · refine ⟨E / 18446744073709551616 % 18446744073709551616, rfl, by omega, by omega, ?_⟩
    have:=key 1 (by omega)
    unfold Hid
    rw[← this]
    congr 2
    rw[show 2 ^ (64*1)=18446744073709551616 from rfl]
    omega
  · refine ⟨E / 340282366920938463463374607431768211456 % 18446744073709551616, rfl, by omega, by omega, ?_⟩
    have:=key 2 (by omega)
    unfold Hid
    rw[← this]
    congr 2
    rw[show 2 ^ (64*2)=340282366920938463463374607431768211456 from rfl]
    omega
  · refine ⟨E / 6277101735386680763835789423207666416102355444464034512896 % 18446744073709551616, rfl, by omega, by omega, ?_⟩
    have:=key 3 (by omega)
    unfold Hid
    rw[← this]
    congr 2
    rw[show 2 ^ (64*3)=6277101735386680763835789423207666416102355444464034512896 from rfl]
    omega

theorem nib_at (E x y:Int) (r s n:Nat) (hs:s=4*r) (hy:y=x / 2 ^ s) (hx0:0≤x) (hx1:x<18446744073709551616) (H:x.toNat / 2 ^ (4*r)%16=E.toNat / 16 ^ n%16):
    ∃ nb:Nat,bits .and .u64 y 15=(nb:Int)∧(nb:Int)<16∧Hid (nb=E.toNat / 16 ^ n%16):=by
  obtain⟨X,rfl⟩:=Int.eq_ofNat_of_zero_le hx0
  have e:y=((X / 2 ^ s:Nat):Int):=by rw[hy];rw[Int.natCast_ediv,Int.natCast_pow];rfl
  have hX:X<18446744073709551616:=by omega
  have hb:X / 2 ^ s<18446744073709551616:=Nat.lt_of_le_of_lt (Nat.div_le_self _ _) hX
  have h:=bits_and_u64_nat (X / 2 ^ s) 15 hb (by omega)
  have e2:X / 2 ^ s &&& 15=X / 2 ^ s%16:=Nat.and_two_pow_sub_one_eq_mod _ 4
  rw[e2] at h
  refine⟨X / 2 ^ s%16,by rw[e];exact h,by omega,?_⟩
  unfold Hid
  rw[← H,hs]
  rfl

set_option maxHeartbeats 2000000 in
theorem Pow_c (A E : Int) (hA : Ok A) (hE : Ok E) (w : World) : Calls Tryz.prog 87 #[.agg (feC A), .agg (feC E)] w fun e w' => e = .returned (.agg (feC (pm A E.toNat))) ∧ Below w.heap.size w w' := by
  have S:=Calm.St.start w
  go_enter Tryz.func87,Tryz.ntmps87
  go_wp2_with (first|(refine wl_box S rfl rfl rfl ?_;clear S;intro b W S)|(refine wl_new (ty:=58) S rfl rfl zeroFe ?_;clear S;intro b W S)|(refine g_load (ty:=58) rfl ?_;refine wl_load (ty:=58) S rfl rfl rfl (by repeat constructor) aggFe (by rfl) ?_))
  refine(firstPowers_c A hA _).mono ?_
  rintro e W1 ⟨rfl,hb⟩
  have S:=S.call hb
  clear hb
  go_wp2_with (first|(refine wl_new (ty:=122) S rfl rfl zeroTab ?_;clear S;intro b W S)|(refine g_store (ty:=122) rfl ?_;refine wl_store (ty:=122) S rfl rfl rfl rfl (by repeat(first|exact foc_hd|apply foc_tl)) aggTab (by rw[tab_size _ (fun _=>rfl)]) (by rw[tab_size _ (fun _=>rfl)]) (tab_one _) ?_;clear S;intro W S))
  refine(Of_c 1 (by omega) (by omega) _).mono ?_
  rintro e W2 ⟨rfl,hb⟩
  have S:=S.call hb
  clear hb
  go_wp2_with (first|(refine wl_new (ty:=58) S rfl rfl zeroFe ?_;clear S;intro b W S)|(refine g_store (ty:=58) rfl ?_;refine wl_store (ty:=58) S rfl rfl rfl rfl (by repeat(first|exact foc_hd|apply foc_tl)) aggFe rfl (by rfl) (w4_one _ _ _ _) ?_;clear S;intro W S))
  rename_i bA _ bE _ bR _ _ bT _ _ _ _ K hK
  go_loopw [12] (fun i Wr=>∃ k:Nat,k≤64∧i= .int .i64 k∧Calm.St w Wr [⟨b,feC (pm A (eK E k)),58⟩,⟨bT,(Calm.flat (pwG A 15) 16).toArray,122⟩,⟨bR, #[.int .u64 0,.int .u64 0,.int .u64 0,.int .u64 0],58⟩,⟨bE,feC E,58⟩,⟨bA,feC A,58⟩]) (fun i _=>64 - (intOf i).toNat)
  case atStart=>exact⟨0,by omega,rfl,by rw[eK_0 E hE,pm_0];exact S⟩
  case round =>
    clear S
    obtain⟨k,hk,rfl,S⟩:=hrel
    by_cases hlt:k<64
    · obtain ⟨m, hm⟩ : ∃ m : Nat, m = 63 - k := ⟨_, rfl⟩
      have hm1:(63:Int) - k=(m:Int):=by omega
      have hm2:m<64:=by omega
      obtain⟨q,hq⟩:∃ q:Nat,q=m / 16:=⟨_,rfl⟩
      obtain⟨r,hr⟩:∃ r:Nat,r=m%16:=⟨_,rfl⟩
      have g1:IntKind.i64.wrap ((m:Int) / 16)=(q:Int):=by rw[wrap_small _ (by omega) (by omega)];omega
      have g2:(m:Int).tmod 16=(r:Int):=by rw[Int.tmod_eq_emod_of_nonneg (by omega)];omega
      obtain⟨s,hs⟩:∃ s:Nat,s=4*r:=⟨_,rfl⟩
      have g3:IntKind.i64.wrap ((r:Int)*4)=(s:Int):=by rw[wrap_small _ (by omega) (by omega)];omega
      have g4:(q:Int)<4:=by omega
      have Hq:=hide hq
      have Hr:=hide hr
      clear hq hr
      have h16:eK E k+eK E k+(eK E k+eK E k)+(eK E k+eK E k+(eK E k+eK E k))+(eK E k+eK E k+(eK E k+eK E k)+(eK E k+eK E k+(eK E k+eK E k)))=16*eK E k:=by omega
      have H16:=hide h16
      have Hm:=hide hm
      clear h16 hm
      obtain⟨x,hx,hx0,hx1,HX⟩:=wd_at E hE q r (by omega) (by have:=Hr.out;omega)
      have Hx:=hide hx
      clear hx
      have hs64:s≤64:=by have:=Hr.out;omega
      obtain⟨nb,g6,g7,HN⟩:=nib_at E x _ r s (16*q+r) hs rfl hx0 hx1 HX.out
      have Hhs:=hide hs
      clear hs
      have He:Hid (16*eK E k+nb=eK E (k+1)):=by
        have h1:=Hm.out
        have h2:=Hq.out
        have h3:=Hr.out
        unfold Hid
        rw[eK_step E k hlt,HN.out,show 16*q+r=63 - k by omega]
      have Ht:Hid ((Calm.flat (pwG A 15) 16).toArray.extract (nb*4) (nb*4+4)=feC (pm A nb)):=by
        have h:=Calm.flat_take (g:=pwG A 15) (m:=4) (fun _=>rfl) (i:=nb) (n:=16) (by omega)
        rw[Nat.mul_comm 4 nb] at h
        unfold Hid
        rw[h]
        unfold pwG
        rw[if_pos (by omega)]
        rfl
      go_wp2_with (first|(refine wl_box S rfl rfl rfl ?_;clear S;intro b W S)|(refine wl_new (ty:=58) S rfl rfl zeroFe ?_;clear S;intro b W S)|(refine g_load (ty:=58) rfl ?_;refine wl_load (ty:=58) S rfl rfl rfl (by repeat constructor) aggFe (by rfl) ?_)|(refine g_store (ty:=58) rfl ?_;refine wl_store (ty:=58) S rfl rfl rfl rfl (by repeat(first|exact foc_hd|apply foc_tl)) aggFe rfl (by rfl) (w4_one _ _ _ _) ?_;clear S;intro W S)|(refine g_load (ty:=24) rfl ?_;refine wl_loadE (ty:=24) S rfl rfl rfl (by repeat constructor) (by rfl) one64 ?_)|(refine g_store (ty:=24) rfl ?_;refine wl_storeE (ty:=24) S rfl rfl rfl rfl (by rfl) (by repeat(first|exact foc_hd|apply foc_tl)) one64 (by simp) rfl ?_;clear S;intro W S;simp only[Act.eval,zQ] at S))
      refine wp_loop_rounds 5 ?_
      rw[rounds_succ]
      go_wp2_with ((refine g_load (ty:=58) rfl ?_;refine wl_load (ty:=58) S rfl rfl rfl (by repeat constructor) aggFe (by rfl) ?_))
      refine(Mul_c _ _ (ok_pm _ _) (ok_pm _ _) _).mono ?_
      rintro e W1 ⟨he,hb⟩
      rw[pm_add] at he
      subst he
      have S:=S.call hb
      clear hb
      go_wp2_with ((refine g_store (ty:=58) rfl ?_;refine wl_store (ty:=58) S rfl rfl rfl rfl (by repeat(first|exact foc_hd|apply foc_tl)) aggFe rfl (by rfl) (w4_one _ _ _ _) ?_;clear S;intro W S))
      rw[rounds_succ]
      go_wp2_with ((refine g_load (ty:=58) rfl ?_;refine wl_load (ty:=58) S rfl rfl rfl (by repeat constructor) aggFe (by rfl) ?_))
      refine(Mul_c _ _ (ok_pm _ _) (ok_pm _ _) _).mono ?_
      rintro e W1 ⟨he,hb⟩
      rw[pm_add] at he
      subst he
      have S:=S.call hb
      clear hb
      go_wp2_with ((refine g_store (ty:=58) rfl ?_;refine wl_store (ty:=58) S rfl rfl rfl rfl (by repeat(first|exact foc_hd|apply foc_tl)) aggFe rfl (by rfl) (w4_one _ _ _ _) ?_;clear S;intro W S))
      rw[rounds_succ]
      go_wp2_with ((refine g_load (ty:=58) rfl ?_;refine wl_load (ty:=58) S rfl rfl rfl (by repeat constructor) aggFe (by rfl) ?_))
      refine(Mul_c _ _ (ok_pm _ _) (ok_pm _ _) _).mono ?_
      rintro e W1 ⟨he,hb⟩
      rw[pm_add] at he
      subst he
      have S:=S.call hb
      clear hb
      go_wp2_with ((refine g_store (ty:=58) rfl ?_;refine wl_store (ty:=58) S rfl rfl rfl rfl (by repeat(first|exact foc_hd|apply foc_tl)) aggFe rfl (by rfl) (w4_one _ _ _ _) ?_;clear S;intro W S))
      rw[rounds_succ]
      go_wp2_with ((refine g_load (ty:=58) rfl ?_;refine wl_load (ty:=58) S rfl rfl rfl (by repeat constructor) aggFe (by rfl) ?_))
      refine(Mul_c _ _ (ok_pm _ _) (ok_pm _ _) _).mono ?_
      rintro e W1 ⟨he,hb⟩
      rw[pm_add] at he
      subst he
      have S:=S.call hb
      clear hb
      go_wp2_with ((refine g_store (ty:=58) rfl ?_;refine wl_store (ty:=58) S rfl rfl rfl rfl (by repeat(first|exact foc_hd|apply foc_tl)) aggFe rfl (by rfl) (w4_one _ _ _ _) ?_;clear S;intro W S))
      rw[rounds_succ]
      go_wp2_with (first|(refine wl_box S rfl rfl rfl ?_;clear S;intro b W S)|(refine wl_new (ty:=58) S rfl rfl zeroFe ?_;clear S;intro b W S)|(refine g_load (ty:=58) rfl ?_;refine wl_load (ty:=58) S rfl rfl rfl (by repeat constructor) aggFe (by rfl) ?_)|(refine g_store (ty:=58) rfl ?_;refine wl_store (ty:=58) S rfl rfl rfl rfl (by repeat(first|exact foc_hd|apply foc_tl)) aggFe rfl (by rfl) (w4_one _ _ _ _) ?_;clear S;intro W S)|(refine g_load (ty:=24) rfl ?_;refine wl_loadE (ty:=24) S rfl rfl rfl (by repeat constructor) (by rfl) one64 ?_)|(refine g_store (ty:=24) rfl ?_;refine wl_storeE (ty:=24) S rfl rfl rfl rfl (by rfl) (by repeat(first|exact foc_hd|apply foc_tl)) one64 (by simp) rfl ?_;clear S;intro W S;simp only[Act.eval,zQ] at S))
      rw[H16.out] at S
      refine Calm.region0 S 13 (by kernel_rfl) (by kernel_rfl) (fun S=> ?_)
      iterate 4 (first|(refine wn_move rfl (by rfl) (Or.inl rfl) ?_;simp only[Act.put,Act.eval,zQ])|(refine Calm.gn_load (ty:=58) rfl ?_;refine wn_load (ty:=58) S rfl (by rfl) rfl rfl (by repeat constructor) aggFe (by rfl) ?_;simp only[Act.put,Act.eval,zQ])|(apply wn_val rfl (by rfl);(intro w;go_simp;rfl);simp only[Act.put,Act.eval,zQ]))
      refine Calm.gn_load (ty:=24) rfl ?_
      refine wn_loadE (ty:=24) (v:= .int .u64 x) S rfl (by rfl) rfl rfl (by repeat constructor) Hx.out one64 ?_
      simp only[Act.put,Act.eval,zQ]
      iterate 6 (first|(refine wn_move rfl (by rfl) (Or.inl rfl) ?_;simp only[Act.put,Act.eval,zQ])|(apply wn_val rfl (by rfl);(intro w;go_simp;rfl);simp only[Act.put,Act.eval,zQ]))
      refine Calm.gn_load (ty:=58) rfl ?_
      refine wn_loadM (ty:=58) (b:=bT) (cs:=feC (pm A nb)) S rfl (by rfl) rfl rfl (by repeat constructor) aggFe rfl Ht.out ?_
      simp only[Act.put,Act.eval,zQ]
      repeat((apply wn_call (f:=56) rfl (by rfl) rfl;(intro w;go_simp;rfl);(intro w;exact Mul_c _ _ (ok_pm _ _) (ok_pm _ _) w);simp only[Act.put,Act.eval,zQ]))
      (refine wn_nil ?_;clear S;intro W S;simp only[Act.put,List.setIfInBounds_toArray,List.set_cons_zero,List.set_cons_succ,List.drop_succ_cons,List.drop_zero,List.drop_nil])
      rw[pm_add,He.out]
      go_wp2_with ((refine g_store (ty:=58) rfl ?_;refine wl_store (ty:=58) S rfl rfl rfl rfl (by repeat(first|exact foc_hd|apply foc_tl)) aggFe rfl (by rfl) (w4_one _ _ _ _) ?_;clear S;intro W S))
      go_roundw
      case rel=>exact⟨k+1,by omega,by go_num,S⟩
      case measure=>simp[intOf];omega
    · have hk' : k = 64 := by omega
      subst hk'
      rw[eK_64] at S
      go_wp2_with (first|(refine g_load (ty:=58) rfl ?_;refine wl_load (ty:=58) S rfl rfl rfl (by repeat constructor) aggFe (by rfl) ?_)|(refine g_store (ty:=58) rfl ?_;refine wl_store (ty:=58) S rfl rfl rfl rfl (by repeat(first|exact foc_hd|apply foc_tl)) aggFe rfl (by rfl) (w4_one _ _ _ _) ?_;clear S;intro W S))
      refine Calm.ret_cell S (by rfl) (by rfl) (by repeat constructor) aggFe (by simp only[feC_size]) (by rfl) ?_
      exact⟨rfl,S.below⟩
end Go.Proofs.YtdebkddhpogkgaaGreat
