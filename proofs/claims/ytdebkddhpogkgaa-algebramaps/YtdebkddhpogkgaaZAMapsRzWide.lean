import Derived.Test.YtdebkddhpogkgaaZAMapsRfAll
set_option linter.unusedSimpArgs false
namespace Go.Proofs.Ytdebkddhpogkgaa
open Go.RowKit Go.Calm Go.Arr
theorem m8_b64:(18446744073709551616:Int) ^ 8=256 ^ 64:=by rw[m_8,b_64]
set_option maxHeartbeats 1000000 in
theorem Wide_c (N:Int) (hN:0≤N∧N<256 ^ 64) (w:World):Calls Try.prog 35 #[.agg (arr .u8 64 (dig 256 N))] w fun e w'=>e= .returned (.agg (arr .u8 32 (dig 256 (N%el))))∧Below w.heap.size w w':=by
  have S:=Calm.St.start w
  have hN8:0≤N∧N<18446744073709551616 ^ 8:=by rw[m8_b64];exact hN
  have HN8:=hide hN8
  have HN:=hide hN
  clear hN hN8
  go_enter Try.func35,Try.ntmps35
  go_wp2_with (first|(refine wl_box S rfl rfl rfl ?_;clear S;intro b W S)|(refine wl_new (ty:=29) S rfl rfl zeroSc ?_;clear S;intro b W S)|(refine wl_new (ty:=101) S rfl rfl zeroWi ?_;clear S;intro b W S))
  rename_i bB _ bR _ K hK
  go_loopw [5] (fun i Wr=>∃ k:Nat,k≤64∧i= .int .i64 k∧Calm.St w Wr [⟨b,arr .u64 8 (dig 18446744073709551616 (N%256 ^ k)),101⟩,⟨bR,arr .u8 32 (fun _=>0),29⟩,⟨bB,arr .u8 64 (dig 256 N),33⟩]) (fun i _=>64 - (intOf i).toNat)
  case atStart=>exact⟨0,by omega,rfl,by rw[show N%256 ^ 0=0 from by simp,dig_0];exact S⟩
  case round =>
    clear S
    obtain⟨k,hk,rfl,S⟩:=hrel
    by_cases hlt:k<64
    · obtain ⟨q, hq⟩ : ∃ q : Nat, q = k / 8 := ⟨_, rfl⟩
      obtain⟨r,hr⟩:∃ r:Nat,r=k%8:=⟨_,rfl⟩
      obtain⟨s,hs⟩:∃ s:Nat,s=8*r:=⟨_,rfl⟩
      have g1:IntKind.i64.wrap ((k:Int) / 8)=(q:Int):=by rw[wrap_small _ (by omega) (by omega)];omega
      have g2:(k:Int).tmod 8=(r:Int):=by rw[Int.tmod_eq_emod_of_nonneg (by omega)];omega
      have g3:IntKind.i64.wrap ((r:Int)*8)=(s:Int):=by rw[wrap_small _ (by omega) (by omega)];omega
      have g4:(q:Int)<8:=by omega
      have g5:(k:Int)<64:=by omega
      have hs64:s≤64:=by omega
      obtain⟨t,z,hx,t0,t1,z0,z1,z2,HZ,hn⟩:=rd_step 8 N HN.out.1 k q r s (by omega) (by omega) (by omega) hs
      obtain⟨d0,d1⟩:=dig_bd b_pos N k
      have Hx:=hide hx
      have Hn:=hide hn
      have Hb:=hide (arr_at .u8 64 (dig 256 N) k hlt)
      have g0:IntKind.u64.wrap (dig 256 N k)=dig 256 N k:=by rw[IntKind.wrap_u64];omega
      have g6:IntKind.u64.wrap (dig 256 N k*2 ^ s)=z:=by rw[IntKind.wrap_u64,← HZ.out];omega
      have g7:=or_add t z (dig 256 N k) s t0 t1 d0 HZ.out z2 z0
      have hq4:q<8:=by omega
      clear hx hn hq hr hs t1
      go_wp2_with fail
      refine Calm.region0 S 14 (by kernel_rfl) (by kernel_rfl) (fun S=> ?_)
      iterate 3 (first|(refine wn_move rfl (by rfl) (Or.inl rfl) ?_;simp only[Act.put,Act.eval,zQ])|(apply wn_val rfl (by rfl);(intro w;go_simp;rfl);simp only[Act.put,Act.eval,zQ]))
      (refine Calm.gn_load (ty:=39) rfl ?_;refine wn_loadE (ty:=39) (b:=b) (v:= .int .u64 t) S rfl (by rfl) rfl rfl (by repeat constructor) Hx.out o64 ?_;simp only[Act.put,Act.eval,zQ])
      iterate 2 (first|(refine wn_move rfl (by rfl) (Or.inl rfl) ?_;simp only[Act.put,Act.eval,zQ])|(apply wn_val rfl (by rfl);(intro w;go_simp;rfl);simp only[Act.put,Act.eval,zQ]))
      (refine Calm.gn_load (ty:=5) rfl ?_;refine wn_loadE (ty:=5) (b:=bB) (v:= .int .u8 (dig 256 N k)) S rfl (by rfl) rfl rfl (by repeat constructor) Hb.out oU8 ?_;simp only[Act.put,Act.eval,zQ])
      repeat(first|(refine wn_move rfl (by rfl) (Or.inl rfl) ?_;simp only[Act.put,Act.eval,zQ])|(apply wn_val rfl (by rfl);(intro w;go_simp;rfl);simp only[Act.put,Act.eval,zQ]))
      (refine wn_nil ?_;clear S;intro W S;simp only[Act.put,List.setIfInBounds_toArray,List.set_cons_zero,List.set_cons_succ,List.drop_succ_cons,List.drop_zero,List.drop_nil])
      refine wl_storeE (ty:=39) (b:=b) (cs:=arr .u64 8 (dig 18446744073709551616 (N%256 ^ (k+1)))) S rfl rfl rfl rfl Hn.out (by repeat(first|exact foc_hd|apply foc_tl)) o64 (by rw[arr_size];omega) rfl ?_
      clear S
      intro W S
      go_wp2_with fail
      go_roundw
      case rel=>exact⟨k+1,by omega,by go_num,S⟩
      case measure=>simp[intOf];omega
    · have hk' : k = 64 := by omega
      subst hk'
      rw[show N%256 ^ 64=N from Int.emod_eq_of_lt HN.out.1 HN.out.2] at S
      go_wp2_with ((refine g_load (ty:=101) rfl ?_;refine wl_load (ty:=101) S rfl rfl rfl (by repeat constructor) aggWi (by first|exact(Go.Arr.arr_size _ _ _).symm|rfl) ?_))
      refine(rest_c N HN8.out _).mono ?_
      rintro e W1 ⟨rfl,hb⟩
      have S:=S.call hb
      clear hb
      go_wp2_with (first|(refine wl_box S rfl rfl rfl ?_;clear S;intro b W S)|(refine wl_new (ty:=103) S rfl rfl zeroWd ?_;clear S;intro b W S)|(refine g_load (ty:=103) rfl ?_;refine wl_load (ty:=103) S rfl rfl rfl (by repeat constructor) aggWd (by first|exact(Go.Arr.arr_size _ _ _).symm|rfl) ?_)|(refine g_store (ty:=103) rfl ?_;refine wl_store (ty:=103) S rfl rfl rfl rfl (by repeat(first|exact foc_hd|apply foc_tl)) aggWd (by first|exact(Go.Arr.arr_size _ _ _).symm|rfl) (by first|exact(Go.Arr.arr_size _ _ _).symm|rfl) (by first|exact Go.Arr.arr_one _ _ _|rfl|simp[Value.oneCell']) ?_;clear S;intro W S))
      refine(write_c _ (ok8_mod _) _).mono ?_
      rintro e W1 ⟨rfl,hb⟩
      have S:=S.call hb
      clear hb
      go_wp2_with ((refine g_store (ty:=29) rfl ?_;refine wl_store (ty:=29) S rfl rfl rfl rfl (by repeat(first|exact foc_hd|apply foc_tl)) aggSc (by first|exact(Go.Arr.arr_size _ _ _).symm|rfl) (by first|exact(Go.Arr.arr_size _ _ _).symm|rfl) (by first|exact Go.Arr.arr_one _ _ _|rfl|simp[Value.oneCell']) ?_;clear S;intro W S))
      refine Calm.ret_cell S (by rfl) (by rfl) (by repeat constructor) aggSc (arr_size _ _ _).symm (by rfl) ?_
      exact⟨rfl,S.below⟩
end Go.Proofs.Ytdebkddhpogkgaa
