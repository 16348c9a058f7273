import Derived.Test.YtdebkddhpogkgaaGreatZASarsArr2
import Derived.Test.YtdebkddhpogkgaaGreatZASarsRzKnown
set_option linter.unusedSimpArgs false
namespace Go.Proofs.YtdebkddhpogkgaaGreat
open Go.RowKit Go.Calm Go.Arr
theorem by_v (A:Int) (hA:Ok8 A):vB 256 (dig 256 A) 32=A:=dig_v b_pos A 32 hA.1 (by rw[b_32];exact hA.2)
set_option maxHeartbeats 1000000 in
theorem RMay_c (A : Int) (hA : Ok8 A) (w : World) : Calls Tryz.prog 21 #[.agg (arr .u8 32 (dig 256 A))] w fun e w' => e = .returned (.bool (decide (A < el))) ∧ Below w.heap.size w w' := by
  have S:=Calm.St.start w
  go_enter Tryz.func21,Tryz.ntmps21
  go_wp2_with ((refine wl_box S rfl rfl rfl ?_;clear S;intro b W S))
  rename Nat=>bA
  refine(Order_c _).mono ?_
  rintro e W1 ⟨rfl,hb⟩
  have S:=S.call hb
  clear hb
  go_wp2_with (first|(refine wl_new (ty:=22) S rfl rfl zeroB32 ?_;clear S;intro b W S)|(refine g_store (ty:=22) rfl ?_;refine wl_store (ty:=22) S rfl rfl rfl rfl (by repeat(first|exact foc_hd|apply foc_tl)) aggB32 (by first|exact(Go.Arr.arr_size _ _ _).symm|rfl) (by first|exact(Go.Arr.arr_size _ _ _).symm|rfl) (by first|exact Go.Arr.arr_one _ _ _|rfl|simp[Value.oneCell']) ?_;clear S;intro W S))
  rename_i K hK
  go_loopw [4] (fun i Wr=>∃ k:Nat,k≤32∧i= .int .i64 ((k:Int) - 1)∧(∀ j,k≤j→j<32→dig 256 A j=dig 256 el j)∧Calm.St w Wr [⟨b,arr .u8 32 (dig 256 el),22⟩,⟨bA,arr .u8 32 (dig 256 A),23⟩]) (fun i _=>(intOf i+1).toNat)
  case atStart=>exact⟨32,by omega,rfl,fun j h1 h2=>by omega,S⟩
  case round =>
    clear S
    obtain⟨k,hk,rfl,he,S⟩:=hrel
    by_cases h0:k=0
    · subst h0
      have ev:A=el:=by
        rw[← by_v A hA,← by_v el ok8_el]
        exact vB_ext 32 fun j hj=>he j (by omega) hj
      have ed:decide (A<el)=false:=decide_eq_false (by omega)
      have Ed:=hide ed
      clear ev ed he
      rw[show((0:Nat):Int) - 1= -1 from rfl]
      go_wp2_with fail
      go_ret
      exact⟨by rw[Ed.out];rfl,S.below⟩
    · obtain ⟨m, rfl⟩ : ∃ m, k = m + 1 := ⟨k - 1, by omega⟩
      have em:((m+1:Nat):Int) - 1=(m:Int):=by omega
      rw[em]
      have hm8:(m:Int)<32:=by omega
      have Hx:=hide (arr_at .u8 32 (dig 256 A) m (by omega))
      have Hy:=hide (arr_at .u8 32 (dig 256 el) m (by omega))
      have He:=hide he
      clear he em
      go_wp2_with fail
      refine Calm.region0 S 7 (by kernel_rfl) (by kernel_rfl) (fun S=> ?_)
      iterate 2 (first|(refine wn_move rfl (by rfl) (Or.inl rfl) ?_;simp only[Act.put,Act.eval,zQ])|(apply wn_val rfl (by rfl);(intro w;go_simp;rfl);simp only[Act.put,Act.eval,zQ]))
      (refine Calm.gn_load (ty:=5) rfl ?_;refine wn_loadE (ty:=5) (b:=bA) (v:= .int .u8 (dig 256 A m)) S rfl (by rfl) rfl rfl (by repeat constructor) Hx.out oU8 ?_;simp only[Act.put,Act.eval,zQ])
      iterate 2 (first|(refine wn_move rfl (by rfl) (Or.inl rfl) ?_;simp only[Act.put,Act.eval,zQ])|(apply wn_val rfl (by rfl);(intro w;go_simp;rfl);simp only[Act.put,Act.eval,zQ]))
      (refine Calm.gn_load (ty:=5) rfl ?_;refine wn_loadE (ty:=5) (b:=b) (v:= .int .u8 (dig 256 el m)) S rfl (by rfl) rfl rfl (by repeat constructor) Hy.out oU8 ?_;simp only[Act.put,Act.eval,zQ])
      repeat((apply wn_val rfl (by rfl);(intro w;go_simp;rfl);simp only[Act.put,Act.eval,zQ]))
      (refine wn_nil ?_;clear S;intro W S;simp only[Act.put,List.setIfInBounds_toArray,List.set_cons_zero,List.set_cons_succ,List.drop_succ_cons,List.drop_zero,List.drop_nil])
      by_cases hne:dig 256 A m=dig 256 el m
      · go_wp2_with fail
        go_roundw
        case rel=>exact⟨m,by omega,by go_num,fun j h1 h2=>by
          by_cases h:j=m
          · subst h;exact hne
          · exact He.out j (by omega) h2,S⟩
        case measure=>simp[intOf]
      · go_wp2_with fail
        refine Calm.region0 S 7 (by kernel_rfl) (by kernel_rfl) (fun S=> ?_)
        iterate 2 (first|(refine wn_move rfl (by rfl) (Or.inl rfl) ?_;simp only[Act.put,Act.eval,zQ])|(apply wn_val rfl (by rfl);(intro w;go_simp;rfl);simp only[Act.put,Act.eval,zQ]))
        (refine Calm.gn_load (ty:=5) rfl ?_;refine wn_loadE (ty:=5) (b:=bA) (v:= .int .u8 (dig 256 A m)) S rfl (by rfl) rfl rfl (by repeat constructor) Hx.out oU8 ?_;simp only[Act.put,Act.eval,zQ])
        iterate 2 (first|(refine wn_move rfl (by rfl) (Or.inl rfl) ?_;simp only[Act.put,Act.eval,zQ])|(apply wn_val rfl (by rfl);(intro w;go_simp;rfl);simp only[Act.put,Act.eval,zQ]))
        (refine Calm.gn_load (ty:=5) rfl ?_;refine wn_loadE (ty:=5) (b:=b) (v:= .int .u8 (dig 256 el m)) S rfl (by rfl) rfl rfl (by repeat constructor) Hy.out oU8 ?_;simp only[Act.put,Act.eval,zQ])
        repeat((apply wn_val rfl (by rfl);(intro w;go_simp;rfl);simp only[Act.put,Act.eval,zQ]))
        (refine wn_nil ?_;clear S;intro W S;simp only[Act.put,List.setIfInBounds_toArray,List.set_cons_zero,List.set_cons_succ,List.drop_succ_cons,List.drop_zero,List.drop_nil])
        go_wp2_with fail
        go_ret
        have ed : decide (A < el) = decide (dig 256 A m < dig 256 el m) := by
          have v1:=by_v A hA
          have v2:=by_v el ok8_el
          rcases Int.lt_or_gt_of_ne hne with h|h
          · have := vB_cmp b_pos (n := 32) (by omega) (fun j _ => dig_bd b_pos A j) (fun j _ => dig_bd b_pos el j) (fun j h1 h2 => He.out j (by omega) h2) h
            rw[decide_eq_true h,decide_eq_true (by omega)]
          · have := vB_cmp b_pos (n := 32) (by omega) (fun j _ => dig_bd b_pos el j) (fun j _ => dig_bd b_pos A j) (fun j h1 h2 => (He.out j (by omega) h2).symm) h
            rw[decide_eq_false (show ¬ A<el by omega),decide_eq_false (show ¬ dig 256 A m<dig 256 el m by omega)]
        exact⟨by rw[ed];rfl,S.below⟩
theorem firstK_8 (n:Int) (h0:0≤n) (h1:n<18446744073709551616):arr .u8 32 (firstK n 8)=arr .u8 32 (dig 256 n):=arr_ext fun j _=>by
  unfold firstK
  split
  · rfl
  · rename_i h
    unfold dig
    obtain⟨d,rfl⟩:∃ d,j=8+d:=⟨j - 8,by omega⟩
    have:n<256 ^ (8+d):=by
      rw[Int.pow_add,show(256:Int) ^ 8=18446744073709551616 by decide]
      have:=Bpos b_pos d
      omega
    rw[Int.ediv_eq_zero_of_lt h0 this]
    rfl
set_option maxHeartbeats 1000000 in
theorem ROf2_c (n : Int) (h0 : 0 ≤ n) (h1 : n < 18446744073709551616) (w : World) : Calls Tryz.prog 25 #[.int .u64 n] w fun e w' => e = .returned (.agg (arr .u8 32 (dig 256 n))) ∧ Below w.heap.size w w' := by
  have S:=Calm.St.start w
  go_enter Tryz.func25,Tryz.ntmps25
  go_wp2_with (first|(refine wl_box S rfl rfl rfl ?_;clear S;intro b W S)|(refine wl_new (ty:=23) S rfl rfl zeroSc ?_;clear S;intro b W S)|(refine g_load (ty:=23) rfl ?_;refine wl_load (ty:=23) S rfl rfl rfl (by repeat constructor) aggSc (by first|exact(Go.Arr.arr_size _ _ _).symm|rfl) ?_)|(refine g_store (ty:=23) rfl ?_;refine wl_store (ty:=23) S rfl rfl rfl rfl (by repeat(first|exact foc_hd|apply foc_tl)) aggSc (by first|exact(Go.Arr.arr_size _ _ _).symm|rfl) (by first|exact(Go.Arr.arr_size _ _ _).symm|rfl) (by first|exact Go.Arr.arr_one _ _ _|rfl|simp[Value.oneCell']) ?_;clear S;intro W S))
  rename_i bR _ K hK
  go_loopw [0,4] (fun x i Wr=>∃ k:Nat,k≤8∧i= .int .i64 (k:Int)∧x= .int .u64 (n / 256 ^ k)∧Calm.St w Wr [⟨b,arr .u8 32 (firstK n k),23⟩,⟨bR,arr .u8 32 (fun _=>0),23⟩]) (fun _ i _=>8 - (intOf i).toNat)
  case atStart=>exact⟨0,by omega,rfl,by simp,by rw[firstK_0];exact S⟩
  case round =>
    clear S
    obtain⟨k,hk,rfl,rfl,S⟩:=hrel
    by_cases hlt:k<8
    · have g5 : (k : Int) < 8 := by omega
      have g6:(k:Int)<32:=by omega
      obtain⟨x,hx⟩:∃ x:Int,x=n / 256 ^ k:=⟨_,rfl⟩
      have hxb:0≤x∧x<18446744073709551616:=by
        rw[hx]
        exact⟨Int.ediv_nonneg h0 (Int.le_of_lt (Bpos b_pos k)),Int.lt_of_le_of_lt (Int.ediv_le_self _ h0) h1⟩
      have HB:Hid (x%256=dig 256 n k):=by unfold Hid dig;rw[hx]
      have HN:Hid (n / 256 ^ (k+1)=x / 256):=by unfold Hid;rw[hx,ediv2 _ _ _ (Int.le_of_lt (Bpos b_pos k)),Int.pow_succ]
      have e1:x.tmod 256=x%256:=Int.tmod_eq_emod_of_nonneg hxb.1
      have e2:IntKind.u8.wrap (x%256)=x%256:=by rw[IntKind.wrap_u8];omega
      have e3:IntKind.u64.wrap (x / 256)=x / 256:=by rw[IntKind.wrap_u64];omega
      rw[← hx]
      clear hx
      go_wp2_with (first|(refine g_store (ty:=5) rfl ?_;refine wl_storeE (ty:=5) (b:=b) (cs:=arr .u8 32 (firstK n (k+1))) S rfl rfl rfl rfl (firstK_next n 32 k _ HB.out) (by repeat(first|exact foc_hd|apply foc_tl)) oU8 (by rw[Go.Arr.arr_size];omega) rfl ?_;clear S;intro W S))
      go_roundw
      case rel=>exact⟨k+1,by omega,by go_num,by rw[HN.out],S⟩
      case measure=>simp[intOf];omega
    · have hk' : k = 8 := by omega
      subst hk'
      rw[firstK_8 n h0 h1] at S
      go_wp2_with (first|(refine wl_box S rfl rfl rfl ?_;clear S;intro b W S)|(refine wl_new (ty:=23) S rfl rfl zeroSc ?_;clear S;intro b W S)|(refine g_load (ty:=23) rfl ?_;refine wl_load (ty:=23) S rfl rfl rfl (by repeat constructor) aggSc (by first|exact(Go.Arr.arr_size _ _ _).symm|rfl) ?_)|(refine g_store (ty:=23) rfl ?_;refine wl_store (ty:=23) S rfl rfl rfl rfl (by repeat(first|exact foc_hd|apply foc_tl)) aggSc (by first|exact(Go.Arr.arr_size _ _ _).symm|rfl) (by first|exact(Go.Arr.arr_size _ _ _).symm|rfl) (by first|exact Go.Arr.arr_one _ _ _|rfl|simp[Value.oneCell']) ?_;clear S;intro W S))
      refine Calm.ret_cell S (by rfl) (by rfl) (by repeat constructor) aggSc (arr_size _ _ _).symm (by rfl) ?_
      exact⟨rfl,S.below⟩
end Go.Proofs.YtdebkddhpogkgaaGreat
