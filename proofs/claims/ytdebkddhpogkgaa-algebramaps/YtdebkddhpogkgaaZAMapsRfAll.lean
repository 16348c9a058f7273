import Derived.Test.YtdebkddhpogkgaaZAMapsRfMay
set_option linter.unusedSimpArgs false
namespace Go.Proofs.Ytdebkddhpogkgaa
open Go.RowKit Go.Calm Go.Arr
theorem aggLg:Calm.AggT Try.prog 131 9:=⟨⟨_,Try.underlying131,rfl⟩,by kernel_rfl⟩
theorem zeroLg:(Try.prog.info? 131).bind (·.zero)=some (.agg (arr .u64 9 fun _=>0)):=by kernel_rfl
theorem tw_start:arr .u64 9 (tw el 32)=arr .u64 9 (fun _=>0):=by kernel_rfl
theorem tw_set (X:Int) (m q:Nat) (hq:q=m / 4):arr .u64 9 (tw X m)=(arr .u64 9 (tw X (m+1))).setIfInBounds q (.int .u64 (tw X m q)):=by
  rw[← arr_set]
  refine arr_ext fun j _=> ?_
  by_cases e:j=q
  · subst e;rw[gset_eq]
  · rw[gset_ne _ _ _ e];exact(tw_same X m j (by rw[← hq];exact e)).symm
theorem mix_n (n:Nat) (h g:Nat→Int):arr .u64 n (mixG h g n)=arr .u64 n g:=arr_ext fun j hj=>by unfold mixG;rw[if_pos hj]
theorem mix_0 (n:Nat) (h g:Nat→Int):arr .u64 n (mixG h g 0)=arr .u64 n h:=arr_ext fun j _=>by unfold mixG;rw[if_neg (by omega)]
theorem two_k (k:Nat) (hk:k≤8):(1:Int)≤2 ^ k∧(2:Int) ^ k≤256:=by
  have:k=0∨k=1∨k=2∨k=3∨k=4∨k=5∨k=6∨k=7∨k=8:=by omega
  rcases this with rfl|rfl|rfl|rfl|rfl|rfl|rfl|rfl|rfl<;>decide
theorem g_9:(4294967296:Int) ^ 9=4294967296*115792089237316195423570985008687907853269984665640564039457584007913129639936:=by decide
theorem often_end (k:Nat) (hk:k≤8) (g:Nat→Int) (c:Int) (H:Mc 4294967296 (2 ^ k) (dig 4294967296 el) g c 0 9):arr .u64 9 (mixG (dig 4294967296 el) g 9)=arr .u64 9 (dig 4294967296 (2 ^ k*el)):=by
  rw[mix_n,arr_num g_pos .u64 9 g H.lo]
  have he:=H.eq
  have h0:=H.c0
  have hb:=vB_bd g_pos g 9 H.lo
  have h2:=two_k k hk
  rw[dig_v g_pos el 9 (by unfold el;omega) (by rw[g_9];unfold el;omega)] at he
  rw[g_9] at he hb
  have h3:2 ^ k*el≤256*el:=Int.mul_le_mul_of_nonneg_right h2.2 (by unfold el;omega)
  have hc:c=0:=by unfold el at *; omega
  rw[hc] at he
  rw[show vB 4294967296 g 9=2 ^ k*el by omega]
set_option maxHeartbeats 1000000 in
theorem often_c (k : Nat) (hk : k ≤ 8) (w : World) : Calls Try.prog 112 #[.int .i64 (k : Int)] w fun e w' => e = .returned (.agg (arr .u64 9 (dig 4294967296 (2 ^ k * el)))) ∧ Below w.heap.size w w' := by
  have S:=Calm.St.start w
  go_enter Try.func112,Try.ntmps112
  go_wp2_with ((refine wl_new (ty:=131) S rfl rfl zeroLg ?_;clear S;intro b W S))
  rename Nat=>bR
  refine(Order_c _).mono ?_
  rintro e W1 ⟨rfl,hb⟩
  have S:=S.call hb
  clear hb
  go_wp2_with (first|(refine wl_new (ty:=131) S rfl rfl zeroLg ?_;clear S;intro b W S)|(refine wl_new (ty:=24) S rfl rfl zeroB32 ?_;clear S;intro b W S)|(refine g_store (ty:=24) rfl ?_;refine wl_store (ty:=24) S rfl rfl rfl rfl (by repeat(first|exact foc_hd|apply foc_tl)) aggB32 (by first|exact(Go.Arr.arr_size _ _ _).symm|rfl) (by first|exact(Go.Arr.arr_size _ _ _).symm|rfl) (by first|exact Go.Arr.arr_one _ _ _|rfl|simp[Value.oneCell']) ?_;clear S;intro W S))
  rename_i bL _ _ K hK
  rw[← tw_start] at S
  go_loopw [5] (fun i Wr=>∃ m:Nat,m≤32∧i= .int .i64 ((m:Int) - 1)∧Calm.St w Wr [⟨b,arr .u64 9 (tw el m),131⟩,⟨bL,arr .u8 32 (dig 256 el),24⟩,⟨bR,arr .u64 9 (tw el 32),131⟩]) (fun i _=>(intOf i+1).toNat)
  case atStart=>exact⟨32,by omega,rfl,S⟩
  case round =>
    clear S
    obtain⟨m',hm,rfl,S⟩:=hrel
    by_cases h0:m'=0
    · subst h0
      rw[show((0:Nat):Int) - 1= -1 from rfl]
      rw[tw_start,show arr .u64 9 (tw el 0)=arr .u64 9 (dig 4294967296 el) from arr_ext fun j _=>tw_0 el j] at S
      go_wp2_with fail
      rename_i K2 hK2
      go_loopw [6,7] (fun cc i Wr=>∃(j:Nat) (g:Nat→Int) (c:Int),j≤9∧i= .int .i64 (j:Int)∧cc= .int .u64 c∧Mc 4294967296 (2 ^ k) (dig 4294967296 el) g c 0 j∧Calm.St w Wr [⟨b,arr .u64 9 (mixG (dig 4294967296 el) g j),131⟩,⟨bL,arr .u8 32 (dig 256 el),24⟩,⟨bR,arr .u64 9 (fun _=>0),131⟩]) (fun _ i _=>9 - (intOf i).toNat)
      case atStart=>exact⟨0,fun _=>0,0,by omega,rfl,rfl,⟨fun j h=>by omega,by omega,by have:=two_k k hk;omega,by simp[vB]⟩,by rw[mix_0];exact S⟩
      case round =>
        clear S
        obtain⟨j,g,c,hj,rfl,rfl,hC,S⟩:=hrel
        by_cases hlt:j<9
        · have g5 : (j : Int) < 9 := by omega
          have hk64:k≤64:=by omega
          obtain⟨x,hx⟩:∃ x:Int,x=dig 4294967296 el j:=⟨_,rfl⟩
          have hxb:=dig_bd g_pos el j
          have Hx:Hid ((arr .u64 9 (mixG (dig 4294967296 el) g j))[j]? =some (.int .u64 x)):=by rw[hx];exact mix_at 9 _ g j hlt
          have hbd:=hC.bd hxb
          have hst:=fun t ht=>hC.step g_pos hxb t ht
          have h2:=two_k k hk
          rw[← hx] at hxb hbd hst
          have h3:2 ^ k*4294967296≤256*(4294967296:Int):=Int.mul_le_mul_of_nonneg_right h2.2 (by omega)
          have hc0:=hC.c0
          have hxk:0≤2 ^ k*x:=Int.mul_nonneg (by omega) hxb.1
          obtain⟨t,ht⟩:∃ t:Int,t=c+2 ^ k*x:=⟨_,rfl⟩
          rw[← ht] at hbd
          have e1:IntKind.u64.wrap (x*2 ^ k)=x*2 ^ k:=by rw[IntKind.wrap_u64,Int.mul_comm];omega
          have e2:IntKind.u64.wrap (c+x*2 ^ k)=t:=by rw[IntKind.wrap_u64,Int.mul_comm x];omega
          have e3:t.tmod 4294967296=t%4294967296:=Int.tmod_eq_emod_of_nonneg hbd.1
          have e4:IntKind.u64.wrap (t / 4294967296)=t / 4294967296:=by rw[IntKind.wrap_u64];omega
          have Hst:=hide (hst t ht)
          have ht0:0≤t:=hbd.1
          have ht1:t<18446744073709551616:=by omega
          clear hst ht hx hbd h2 h3 hxk
          go_wp2_with (first|(refine g_load (ty:=39) rfl ?_;refine wl_loadE (ty:=39) (b:=b) (v:= .int .u64 x) S rfl rfl rfl (by repeat constructor) Hx.out o64 ?_)|(refine g_store (ty:=39) rfl ?_;refine wl_storeE (ty:=39) (b:=b) (cs:=arr .u64 9 (mixG (dig 4294967296 el) (gset g j (t%4294967296)) (j+1))) S rfl rfl rfl rfl (mix_set _ _ _ _ _) (by repeat(first|exact foc_hd|apply foc_tl)) o64 (by rw[Go.Arr.arr_size];omega) rfl ?_;clear S;intro W S))
          go_roundw
          case rel=>exact⟨j+1,_,_,by omega,by go_num,rfl,Hst.out,S⟩
          case measure=>simp[intOf];omega
        · have hj' : j = 9 := by omega
          subst hj'
          rw[often_end k hk g c hC] at S
          go_wp2_with (first|(refine g_load (ty:=131) rfl ?_;refine wl_load (ty:=131) S rfl rfl rfl (by repeat constructor) aggLg (by first|exact(Go.Arr.arr_size _ _ _).symm|rfl) ?_)|(refine g_store (ty:=131) rfl ?_;refine wl_store (ty:=131) S rfl rfl rfl rfl (by repeat(first|exact foc_hd|apply foc_tl)) aggLg (by first|exact(Go.Arr.arr_size _ _ _).symm|rfl) (by first|exact(Go.Arr.arr_size _ _ _).symm|rfl) (by first|exact Go.Arr.arr_one _ _ _|rfl|simp[Value.oneCell']) ?_;clear S;intro W S))
          refine Calm.ret_cell S (by rfl) (by rfl) (by repeat constructor) aggLg (arr_size _ _ _).symm (by rfl) ?_
          exact⟨rfl,S.below⟩
    · obtain ⟨m, rfl⟩ : ∃ m, m' = m + 1 := ⟨m' - 1, by omega⟩
      have em:((m+1:Nat):Int) - 1=(m:Int):=by omega
      rw[em]
      have hm8:(m:Int)<32:=by omega
      obtain⟨q,hq⟩:∃ q:Nat,q=m / 4:=⟨_,rfl⟩
      have g1:IntKind.i64.wrap ((m:Int) / 4)=(q:Int):=by rw[wrap_small _ (by omega) (by omega)];omega
      have g2:(q:Int)<9:=by omega
      have hq9:q<9:=by omega
      obtain⟨x,hx⟩:∃ x:Int,x=tw el (m+1) q:=⟨_,rfl⟩
      obtain⟨y,hy⟩:∃ y:Int,y=tw el m q:=⟨_,rfl⟩
      have Hx:Hid ((arr .u64 9 (tw el (m+1)))[q]? =some (.int .u64 x)):=by rw[hx];exact arr_at _ _ _ q hq9
      have Hd:=hide (arr_at .u8 32 (dig 256 el) m (by omega))
      have hst:=tw_step el (by unfold el;omega) m
      have hyb:=tw_bd el m q
      have hxb:=tw_bd el (m+1) q
      have hdb:=dig_bd b_pos el m
      have Hset:Hid (arr .u64 9 (tw el m)=(arr .u64 9 (tw el (m+1))).setIfInBounds q (.int .u64 y)):=by unfold Hid;rw[hy];exact tw_set el m q hq
      rw[← hq,← hx,← hy] at hst
      rw[← hx] at hxb
      rw[← hy] at hyb
      have e1:IntKind.u64.wrap (256*x)=256*x:=by rw[IntKind.wrap_u64];omega
      have e2:IntKind.u64.wrap (dig 256 el m)=dig 256 el m:=by rw[IntKind.wrap_u64];omega
      have e3:IntKind.u64.wrap (256*x+dig 256 el m)=y:=by rw[IntKind.wrap_u64];omega
      clear hst hx hy hq em
      go_wp2_with fail
      refine Calm.region0 S 13 (by kernel_rfl) (by kernel_rfl) (fun S=> ?_)
      iterate 5 (first|(refine wn_move rfl (by rfl) (Or.inl rfl) ?_;simp only[Act.put,Act.eval,zQ])|(apply wn_val rfl (by rfl);(intro w;go_simp;rfl);simp only[Act.put,Act.eval,zQ]))
      (refine Calm.gn_load (ty:=39) rfl ?_;refine wn_loadE (ty:=39) (b:=b) (v:= .int .u64 x) S rfl (by rfl) rfl rfl (by repeat constructor) Hx.out o64 ?_;simp only[Act.put,Act.eval,zQ])
      iterate 3 (first|(refine wn_move rfl (by rfl) (Or.inl rfl) ?_;simp only[Act.put,Act.eval,zQ])|(apply wn_val rfl (by rfl);(intro w;go_simp;rfl);simp only[Act.put,Act.eval,zQ]))
      (refine Calm.gn_load (ty:=5) rfl ?_;refine wn_loadE (ty:=5) (b:=bL) (v:= .int .u8 (dig 256 el m)) S rfl (by rfl) rfl rfl (by repeat constructor) Hd.out oU8 ?_;simp only[Act.put,Act.eval,zQ])
      repeat((apply wn_val rfl (by rfl);(intro w;go_simp;rfl);simp only[Act.put,Act.eval,zQ]))
      (refine wn_nil ?_;clear S;intro W S;simp only[Act.put,List.setIfInBounds_toArray,List.set_cons_zero,List.set_cons_succ,List.drop_succ_cons,List.drop_zero,List.drop_nil])
      try rw[e3]
      go_wp2_with (first|(refine g_store (ty:=39) rfl ?_;refine wl_storeE (ty:=39) (b:=b) (cs:=arr .u64 9 (tw el m)) S rfl rfl rfl rfl (Hset.out) (by repeat(first|exact foc_hd|apply foc_tl)) o64 (by rw[Go.Arr.arr_size];omega) rfl ?_;clear S;intro W S))
      go_roundw
      case rel=>exact⟨m,by omega,by go_num,S⟩
      case measure=>simp[intOf]
end Go.Proofs.Ytdebkddhpogkgaa

set_option linter.unusedSimpArgs false
namespace Go.Calm
section
variable {P:Program} {ops:Array Oper} {rest:List Oper} {o:Oper} {a:Act} {w0 W:World} {L:List Blk} {Q:Exit→Act→World→Prop}
theorem wl_loadPre (S:St w0 W L) {ty:TypeId} {x:Operand} {g j:Nat} {cs:Array Value} {t:TypeId} {v:Value} (hw:Region.wanted o (yielded ops a.tmps)=true) (ho:o.op= .load ty x) (hx:a.eval x= .pointer (some ⟨g,j,none⟩)) (hg:w0.heap[g]? =some (.cells cs t (0,0))) (hv:cs[j]? =some v)
    (T:OneT P ty)
    (h:wpList P ops Q rest (a.put o.dst v) W):wpList P ops Q (o :: rest) a W:=by
  obtain⟨d,hu,hd⟩:=T.one
  refine wpList_wanted hw fun K hK=> ?_
  have hW:W.heap[g]? =some (.cells cs t (0,0)):=(S.below.block _ (lt_of_heap hg)).trans hg
  unfold Oper.wp execOp
  simp only[ho,hx,Instr.loadAt,Instr.sureAddr,Sem.run_bind,Sem.run_pure,Result.andThen_ok,run_loadVar_one W g j t ty cs d v hW hv hu hd]
  exact hK _ _ h
end
end Go.Calm
namespace Go.Proofs.Ytdebkddhpogkgaa
open Go.RowKit Go.Calm Go.Arr
theorem zeroTb:(Try.prog.info? 132).bind (·.zero)=some (.agg (arr .u64 81 fun _=>0)):=by kernel_rfl
def tbG (k:Nat) (j:Nat):Int:=if j<9*k then dig 4294967296 (2 ^ (j / 9)*el) (j%9) else 0
theorem tbR_0:arr .u64 81 (tbG 0)=arr .u64 81 fun _=>0:=arr_ext fun j _=>by simp[tbG]
theorem tb_next (k:Nat) (hk:k<9):Calm.splice (arr .u64 81 (tbG k)) (k*9) (arr .u64 9 (dig 4294967296 (2 ^ k*el)))=arr .u64 81 (tbG (k+1)):=by
  rw[splice_arr .u64 81 9 (k*9) _ _ (by omega)]
  refine arr_ext fun j _=> ?_
  unfold tbG
  split
  · rename_i h
    rw[if_pos (by omega),show j / 9=k by omega,show j%9=j - k*9 by omega]
  · rename_i h
    by_cases h1:j<9*k
    · rw[if_pos h1,if_pos (by omega)]
    · rw[if_neg h1,if_neg (by omega)]
theorem tb_at (p k:Nat) (hp:p<9) (hk:k<9):(arr .u64 81 (tbG 9))[p*9+k]? =some (.int .u64 (dig 4294967296 (2 ^ p*el) k)):=by
  rw[arr_at _ _ _ (p*9+k) (by omega)]
  unfold tbG
  rw[if_pos (by omega),show(p*9+k) / 9=p by omega,show(p*9+k)%9=k by omega]
def hiV (d:Nat→Int) (n m:Nat):Int:=vB 256 (fun j=>d (j+m)) (n - m)
theorem hi_step (d:Nat→Int) (n m:Nat) (h:m<n):hiV d n m=256*hiV d n (m+1)+d m:=by
  unfold hiV
  obtain⟨e,he⟩:∃ e,n - m=1+e:=⟨n - m - 1,by omega⟩
  rw[he,show n - (m+1)=e by omega,vB_split]
  rw[show(fun j=>(fun j=>d (j+m)) (j+1))=fun j=>d (j+(m+1)) from funext fun j=>by show d (j+1+m)=d (j+(m+1));congr 1;omega]
  simp only[vB]
  simp
  omega
theorem mul_end (R b:Int) (g:Nat→Int) (c:Int) (hR:0≤R∧R<el) (hb:0≤b∧b<256) (H:Mc 4294967296 256 (dig 4294967296 R) g c b 9):arr .u64 9 (mixG (dig 4294967296 R) g 9)=arr .u64 9 (dig 4294967296 (256*R+b)):=by
  rw[mix_n,arr_num g_pos .u64 9 g H.lo]
  have he:=H.eq
  have h0:=H.c0
  have hv:=vB_bd g_pos g 9 H.lo
  rw[dig_v g_pos R 9 hR.1 (by rw[g_9];unfold el at hR;omega)] at he
  rw[g_9] at he hv
  have hc:c=0:=by unfold el at *; omega
  rw[hc] at he
  rw[show vB 4294967296 g 9=256*R+b by omega]
theorem sub_end (V U:Int) (g:Nat→Int) (c:Int) (hV:0≤V∧V<512*el) (hU:0≤U∧U<512*el) (H:Br 4294967296 (dig 4294967296 V) (dig 4294967296 U) g c 9):(c=0∧U≤V∧arr .u64 9 (mixG (fun _=>0) g 9)=arr .u64 9 (dig 4294967296 (V - U)))∨(c=1∧V<U):=by
  have he:=H.eq
  have h0:=H.c0
  have h1:=H.c1
  have hv:=vB_bd g_pos g 9 H.lo
  rw[dig_v g_pos V 9 hV.1 (by rw[g_9];unfold el at hV;omega),dig_v g_pos U 9 hU.1 (by rw[g_9];unfold el at hU;omega)] at he
  rw[g_9] at he hv
  have:c=0∨c=1:=by omega
  rcases this with rfl|rfl
  · left
    refine⟨rfl,by omega,?_⟩
    rw[mix_n,arr_num g_pos .u64 9 g H.lo,show vB 4294967296 g 9=V - U by omega]
  · right
    exact⟨rfl,by omega⟩
theorem pow_el (p:Nat) (hp:p≤8):0≤2 ^ p*el∧2 ^ p*el≤256*el:=by
  have:p=0∨p=1∨p=2∨p=3∨p=4∨p=5∨p=6∨p=7∨p=8:=by omega
  unfold el
  rcases this with rfl|rfl|rfl|rfl|rfl|rfl|rfl|rfl|rfl<;>decide
theorem sub_mod_el (V:Int) (p:Nat):(V - 2 ^ p*el)%el=V%el:=by
  rw[show V - 2 ^ p*el=V+el*(-(2 ^ p)) by rw[Int.mul_neg,Int.mul_comm el];omega,Int.add_mul_emod_self_left]
theorem hi_mod (X b:Int):(256*(X%el)+b)%el=(256*X+b)%el:=by
  rw[Int.add_emod,Int.mul_emod,Int.emod_emod_of_dvd _ (Int.dvd_refl _),← Int.mul_emod,← Int.add_emod]
theorem out_byte (X:Int) (hX:0≤X) (q r s:Nat) (hr:r<4) (hs:s=8*r):dig 4294967296 X q / 2 ^ s%256=dig 256 X (4*q+r):=by rw[hs,two_8];exact wd4 X hX q r hr
set_option maxHeartbeats 4000000 in
theorem Rest_c (d : Nat → Int) (n : Nat) (hn : n ≤ 64) (hd : ∀ j, j < n → 0 ≤ d j ∧ d j < 256) (g cap : Nat) (cur : Array Value) (ty : TypeId) (w : World) (hg : w.heap[g]? = some (.cells cur ty (0, 0))) (hc : ∀ j, j < n → cur[j]? = some (.int .u8 (d j))) :
    Calls Try.prog 84 #[.slice (some ⟨g,0,none⟩) n cap] w fun e w'=>e= .returned (.agg (arr .u8 32 (dig 256 (vB 256 d n%el))))∧Below w.heap.size w w':=by
  have S:=Calm.St.start w
  have HD:=hide hd
  have HG:=hide hg
  have HC:=hide hc
  clear hd hg hc
  go_enter Try.func84,Try.ntmps84
  go_wp2_with (first|(refine wl_new (ty:=29) S rfl rfl zeroSc ?_;clear S;intro b W S)|(refine wl_new (ty:=132) S rfl rfl zeroTb ?_;clear S;intro b W S))
  rename_i bR _ K hK
  rename Nat=>bT
  go_loopw [4] (fun i Wr=>∃ k:Nat,k≤9∧i= .int .i64 (k:Int)∧Calm.St w Wr [⟨bT,arr .u64 81 (tbG k),132⟩,⟨bR,arr .u8 32 (fun _=>0),29⟩]) (fun i _=>9 - (intOf i).toNat)
  case atStart=>exact⟨0,by omega,rfl,by rw[tbR_0];exact S⟩
  case round =>
    clear S
    obtain⟨k,hk,rfl,S⟩:=hrel
    by_cases hlt:k<9
    · have g5 : (k : Int) < 9 := by omega
      have Hn:=hide (tb_next k hlt)
      go_wp2_with fail
      refine(often_c k (by omega) _).mono ?_
      rintro e W1 ⟨rfl,hb⟩
      have S:=S.call hb
      clear hb
      go_wp2_with (first|(refine g_store (ty:=131) rfl ?_;refine wl_storeM (ty:=131) (b:=bT) (new:=arr .u64 81 (tbG (k+1))) S rfl rfl rfl rfl (by repeat(first|exact foc_hd|apply foc_tl)) aggLg (arr_size _ _ _).symm (by rw[arr_size,arr_size];omega) (arr_one _ _ _) Hn.out ?_;clear S;intro W S))
      go_roundw
      case rel=>exact⟨k+1,by omega,by go_num,S⟩
      case measure=>simp[intOf];omega
    · have hk' : k = 9 := by omega
      subst hk'
      have hnn:(n:Int)≤64:=by omega
      have e0:IntKind.i64.wrap ((n:Int) - 1)=(n:Int) - 1:=by rw[IntKind.wrap_i64];omega
      go_wp2_with ((refine wl_new (ty:=131) S rfl rfl zeroLg ?_;clear S;intro b W S))
      rename_i K2 hK2
      rename Nat=>bQ
      go_loopw [6] (fun i Wr=>∃ m:Nat,m≤n∧i= .int .i64 ((m:Int) - 1)∧Calm.St w Wr [⟨bQ,arr .u64 9 (dig 4294967296 (hiV d n m%el)),131⟩,⟨bT,arr .u64 81 (tbG 9),132⟩,⟨bR,arr .u8 32 (fun _=>0),29⟩]) (fun i _=>(intOf i+1).toNat)
      case atStart=>exact⟨n,by omega,rfl,by rw[show hiV d n n%el=0 by unfold hiV;rw[Nat.sub_self];rfl,dig_0];exact S⟩
      case round =>
        clear S
        obtain⟨m',hm,rfl,S⟩:=hrel
        by_cases h0:m'=0
        · subst h0
          rw[show((0:Nat):Int) - 1= -1 from rfl]
          obtain⟨X,hX⟩:∃ X:Int,X=vB 256 d n%el:=⟨_,rfl⟩
          have hXb:0≤X:=by rw[hX];unfold el;omega
          rw[show hiV d n 0=vB 256 d n from rfl,← hX] at S
          have HX:=hide hX
          clear hX
          go_wp2_with ((refine wl_new (ty:=29) S rfl rfl zeroSc ?_;clear S;intro b W S))
          rename_i K3 hK3
          rename Nat=>bO
          go_loopw [15] (fun i Wr=>∃ k:Nat,k≤32∧i= .int .i64 (k:Int)∧Calm.St w Wr [⟨bO,arr .u8 32 (firstK X k),29⟩,⟨bQ,arr .u64 9 (dig 4294967296 X),131⟩,⟨bT,arr .u64 81 (tbG 9),132⟩,⟨bR,arr .u8 32 (fun _=>0),29⟩]) (fun i _=>32 - (intOf i).toNat)
          case atStart=>exact⟨0,by omega,rfl,by rw[firstK_0];exact S⟩
          case round =>
            clear S
            obtain⟨k,hk,rfl,S⟩:=hrel
            by_cases hlt2:k<32
            · obtain ⟨q, hq⟩ : ∃ q : Nat, q = k / 4 := ⟨_, rfl⟩
              obtain⟨r,hr⟩:∃ r:Nat,r=k%4:=⟨_,rfl⟩
              obtain⟨s,hs⟩:∃ s:Nat,s=8*r:=⟨_,rfl⟩
              have g1:IntKind.i64.wrap ((k:Int) / 4)=(q:Int):=by rw[wrap_small _ (by omega) (by omega)];omega
              have g2:(k:Int).tmod 4=(r:Int):=by rw[Int.tmod_eq_emod_of_nonneg (by omega)];omega
              have g3:IntKind.i64.wrap (8*(r:Int))=(s:Int):=by rw[wrap_small _ (by omega) (by omega)];omega
              have g4:(q:Int)<9:=by omega
              have g5:(k:Int)<32:=by omega
              have hs64:s≤64:=by omega
              obtain⟨x,hx⟩:∃ x:Int,x=dig 4294967296 X q:=⟨_,rfl⟩
              have Hx:Hid ((arr .u64 9 (dig 4294967296 X))[q]? =some (.int .u64 x)):=by rw[hx];exact arr_at _ _ _ q (by omega)
              have hxb:=dig_bd g_pos X q
              rw[← hx] at hxb
              have HB:Hid (x / 2 ^ s%256=dig 256 X k):=by unfold Hid;rw[hx,out_byte X hXb q r s (by omega) hs,show 4*q+r=k by omega]
              have hxs:0≤x / 2 ^ s:=Int.ediv_nonneg hxb.1 (Int.le_of_lt (Int.pow_pos (by omega)))
              have e1:(x / 2 ^ s).tmod 256=x / 2 ^ s%256:=Int.tmod_eq_emod_of_nonneg hxs
              have e2:IntKind.u8.wrap (x / 2 ^ s%256)=x / 2 ^ s%256:=by rw[IntKind.wrap_u8];omega
              clear hx hq hr hs
              go_wp2_with (first|(refine g_load (ty:=39) rfl ?_;refine wl_loadE (ty:=39) (b:=bQ) (v:= .int .u64 x) S rfl rfl rfl (by repeat constructor) Hx.out o64 ?_)|(refine g_store (ty:=5) rfl ?_;refine wl_storeE (ty:=5) (b:=bO) (cs:=arr .u8 32 (firstK X (k+1))) S rfl rfl rfl rfl (firstK_next X 32 k _ HB.out) (by repeat(first|exact foc_hd|apply foc_tl)) oU8 (by rw[Go.Arr.arr_size];omega) rfl ?_;clear S;intro W S))
              go_roundw
              case rel=>exact⟨k+1,by omega,by go_num,S⟩
              case measure=>simp[intOf];omega
            · have hk' : k = 32 := by omega
              subst hk'
              rw[firstK_n] at S
              go_wp2_with (first|(refine g_load (ty:=29) rfl ?_;refine wl_load (ty:=29) S rfl rfl rfl (by repeat constructor) aggSc (by first|exact(Go.Arr.arr_size _ _ _).symm|rfl) ?_)|(refine g_store (ty:=29) rfl ?_;refine wl_store (ty:=29) S rfl rfl rfl rfl (by repeat(first|exact foc_hd|apply foc_tl)) aggSc (by first|exact(Go.Arr.arr_size _ _ _).symm|rfl) (by first|exact(Go.Arr.arr_size _ _ _).symm|rfl) (by first|exact Go.Arr.arr_one _ _ _|rfl|simp[Value.oneCell']) ?_;clear S;intro W S))
              refine Calm.ret_cell S (by rfl) (by rfl) (by repeat constructor) aggSc (arr_size _ _ _).symm (by rfl) ?_
              exact⟨by rw[HX.out],S.below⟩
        · obtain ⟨m, rfl⟩ : ∃ m, m' = m + 1 := ⟨m' - 1, by omega⟩
          have em:((m+1:Nat):Int) - 1=(m:Int):=by omega
          rw[em]
          have hmn:(m:Int)<(n:Int):=by omega
          have hmn':m<n:=by omega
          have hdm:=HD.out m hmn'
          obtain⟨y,hy⟩:∃ y:Int,y=d m:=⟨_,rfl⟩
          have Hx:=hide (HC.out m hmn')
          obtain⟨R,hR⟩:∃ R:Int,R=hiV d n (m+1)%el:=⟨_,rfl⟩
          have hRb:0≤R∧R<el:=by rw[hR];unfold el;omega
          have HH:Hid (hiV d n m%el=(256*R+y)%el):=by unfold Hid;rw[hR,hi_mod,hy,hi_step d n m hmn']
          rw[← hy] at hdm Hx
          rw[← hR] at S
          have e1:IntKind.u64.wrap y=y:=by rw[IntKind.wrap_u64];omega
          have HRb:=hide hRb
          clear hR hy em hRb
          go_wp2_with (first|(refine g_load (ty:=5) rfl ?_;refine wl_loadPre (ty:=5) (g:=g) (v:= .int .u8 y) S rfl rfl rfl HG.out Hx.out oU8 ?_))
          rename_i K3 hK3
          go_loopw [7,8] (fun cc kk Wr=>∃(k:Nat) (G:Nat→Int) (c:Int),k≤9∧kk= .int .i64 (k:Int)∧cc= .int .u64 c∧Mc 4294967296 256 (dig 4294967296 R) G c y k∧Calm.St w Wr [⟨bQ,arr .u64 9 (mixG (dig 4294967296 R) G k),131⟩,⟨bT,arr .u64 81 (tbG 9),132⟩,⟨bR,arr .u8 32 (fun _=>0),29⟩]) (fun _ kk _=>9 - (intOf kk).toNat)
          case atStart=>exact⟨0,fun _=>0,y,by omega,rfl,rfl,⟨fun j h=>by omega,hdm.1,hdm.2,by simp[vB]⟩,by rw[mix_0];exact S⟩
          case round =>
            clear S
            obtain⟨k,G,c,hk,rfl,rfl,hC,S⟩:=hrel
            by_cases hlt2:k<9
            · have g5 : (k : Int) < 9 := by omega
              obtain⟨x,hx⟩:∃ x:Int,x=dig 4294967296 R k:=⟨_,rfl⟩
              have hxb:=dig_bd g_pos R k
              have HX:Hid ((arr .u64 9 (mixG (dig 4294967296 R) G k))[k]? =some (.int .u64 x)):=by rw[hx];exact mix_at 9 _ G k hlt2
              have hbd:=hC.bd hxb
              have hst:=fun t ht=>hC.step g_pos hxb t ht
              rw[← hx] at hxb hbd hst
              have hc0:=hC.c0
              obtain⟨t,ht⟩:∃ t:Int,t=c+256*x:=⟨_,rfl⟩
              rw[← ht] at hbd
              have f1:IntKind.u64.wrap (256*x)=256*x:=by rw[IntKind.wrap_u64];omega
              have f2:IntKind.u64.wrap (c+256*x)=t:=by rw[IntKind.wrap_u64];omega
              have f3:t.tmod 4294967296=t%4294967296:=Int.tmod_eq_emod_of_nonneg hbd.1
              have f4:IntKind.u64.wrap (t / 4294967296)=t / 4294967296:=by rw[IntKind.wrap_u64];omega
              have Hst:=hide (hst t ht)
              have ht0:0≤t:=hbd.1
              have ht1:t<18446744073709551616:=by omega
              clear hst ht hx hbd
              go_wp2_with (first|(refine g_load (ty:=39) rfl ?_;refine wl_loadE (ty:=39) (b:=bQ) (v:= .int .u64 x) S rfl rfl rfl (by repeat constructor) HX.out o64 ?_)|(refine g_store (ty:=39) rfl ?_;refine wl_storeE (ty:=39) (b:=bQ) (cs:=arr .u64 9 (mixG (dig 4294967296 R) (gset G k (t%4294967296)) (k+1))) S rfl rfl rfl rfl (mix_set _ _ _ _ _) (by repeat(first|exact foc_hd|apply foc_tl)) o64 (by rw[Go.Arr.arr_size];omega) rfl ?_;clear S;intro W S))
              go_roundw
              case rel=>exact⟨k+1,_,_,by omega,by go_num,rfl,Hst.out,S⟩
              case measure=>simp[intOf];omega
            · have hk' : k = 9 := by omega
              subst hk'
              obtain⟨T0,hT0⟩:∃ T0:Int,T0=256*R+y:=⟨_,rfl⟩
              have hTb:0≤T0∧T0<2 ^ 9*el:=by have:=HRb.out;unfold el at *; omega
              rw[mul_end R y G c HRb.out hdm hC,← hT0] at S
              rw[← hT0] at HH
              clear hT0 hC
              go_wp2_with fail
              rename_i K4 hK4
              go_loopw [9] (fun pp Wr=>∃(p:Nat) (V:Int),p≤9∧pp= .int .i64 ((p:Int) - 1)∧(0≤V∧V<2 ^ p*el)∧V%el=T0%el∧Calm.St w Wr [⟨bQ,arr .u64 9 (dig 4294967296 V),131⟩,⟨bT,arr .u64 81 (tbG 9),132⟩,⟨bR,arr .u8 32 (fun _=>0),29⟩]) (fun pp _=>(intOf pp+1).toNat)
              case atStart=>exact⟨9,T0,by omega,rfl,hTb,rfl,S⟩
              case round =>
                clear S
                obtain⟨p',V,hp,rfl,hVb,hVm,S⟩:=hrel
                by_cases hp0:p'=0
                · subst hp0
                  rw[show((0:Nat):Int) - 1= -1 from rfl]
                  have hV2:V=hiV d n m%el:=by
                    rw[HH.out,← hVm]
                    exact(Int.emod_eq_of_lt hVb.1 (by simpa using hVb.2)).symm
                  rw[hV2] at S
                  clear hVb hVm hV2
                  go_wp2_with fail
                  go_roundw
                  case rel=>exact⟨m,by omega,by go_num,S⟩
                  case measure=>simp[intOf]
                · obtain ⟨p, rfl⟩ : ∃ p, p' = p + 1 := ⟨p' - 1, by omega⟩
                  have ep:((p+1:Nat):Int) - 1=(p:Int):=by omega
                  rw[ep]
                  have hp9:(p:Int)<9:=by omega
                  have hp9':p<9:=by omega
                  have hU:=pow_el p (by omega)
                  obtain⟨U,hUU⟩:∃ U:Int,U=2 ^ p*el:=⟨_,rfl⟩
                  have hV2:V<2*U:=by have h9:=hVb.2;rw[Int.pow_succ,Int.mul_comm (2 ^ p) 2,Int.mul_assoc,← hUU] at h9;exact h9
                  have HVb:=hide hVb
                  have HVm:=hide hVm
                  have HTa:=hide (fun k hk=>tb_at p k hp9' hk)
                  rw[← hUU] at hU HTa
                  have HU:=hide hUU
                  have hV0:=hVb.1
                  have hVc:V<512*el:=by omega
                  clear ep hVb hVm hUU
                  go_wp2_with ((refine wl_new (ty:=131) S rfl rfl zeroLg ?_;clear S;intro b W S))
                  rename_i K5 hK5
                  rename Nat=>bD
                  go_loopw [11,12] (fun cc kk Wr=>∃(k:Nat) (G:Nat→Int) (c:Int),k≤9∧kk= .int .i64 (k:Int)∧cc= .int .u64 c∧Br 4294967296 (dig 4294967296 V) (dig 4294967296 U) G c k∧Calm.St w Wr [⟨bD,arr .u64 9 (mixG (fun _=>0) G k),131⟩,⟨bQ,arr .u64 9 (dig 4294967296 V),131⟩,⟨bT,arr .u64 81 (tbG 9),132⟩,⟨bR,arr .u8 32 (fun _=>0),29⟩]) (fun _ kk _=>9 - (intOf kk).toNat)
                  case atStart=>exact⟨0,fun _=>0,0,by omega,rfl,rfl,⟨fun j h=>by omega,by omega,by omega,by simp[vB]⟩,by rw[mix_0];exact S⟩
                  case round =>
                    clear S
                    obtain⟨k,G,c,hk,rfl,rfl,hC,S⟩:=hrel
                    by_cases hlt3:k<9
                    · have g5 : (k : Int) < 9 := by omega
                      obtain⟨x,hx⟩:∃ x:Int,x=dig 4294967296 V k:=⟨_,rfl⟩
                      obtain⟨u,hu⟩:∃ u:Int,u=dig 4294967296 U k:=⟨_,rfl⟩
                      have hxb:=dig_bd g_pos V k
                      have hub:=dig_bd g_pos U k
                      have HX:Hid ((arr .u64 9 (dig 4294967296 V))[k]? =some (.int .u64 x)):=by rw[hx];exact arr_at _ _ _ k hlt3
                      have HT:Hid ((arr .u64 81 (tbG 9))[p*9+k]? =some (.int .u64 u)):=by rw[hu];exact HTa.out k hlt3
                      rw[← hx] at hxb
                      rw[← hu] at hub
                      have hc0:=hC.c0
                      have hc1:=hC.c1
                      obtain⟨z,hz⟩:∃ z:Int,z=4294967296+x - u - c:=⟨_,rfl⟩
                      have f1:IntKind.u64.wrap (4294967296+x)=4294967296+x:=by rw[IntKind.wrap_u64];omega
                      have f2:IntKind.u64.wrap (4294967296+x - u)=4294967296+x - u:=by rw[IntKind.wrap_u64];omega
                      have f3:IntKind.u64.wrap (4294967296+x - u - c)=z:=by rw[IntKind.wrap_u64];omega
                      have hz0:0≤z:=by omega
                      have hz1:z<2*4294967296:=by omega
                      have f4:z.tmod 4294967296=z%4294967296:=Int.tmod_eq_emod_of_nonneg hz0
                      have f5:IntKind.u64.wrap (z / 4294967296)=z / 4294967296:=by rw[IntKind.wrap_u64];omega
                      have f6:IntKind.u64.wrap (1 - z / 4294967296)=1 - z / 4294967296:=by rw[IntKind.wrap_u64];omega
                      have hst:=hC.step (s:=z%4294967296) (o:=1 - z / 4294967296) (by omega) (by omega) (by omega) (by omega) (by rw[← hx,← hu];omega)
                      have Hst:=hide hst
                      clear hst hx hu hz
                      go_wp2_with fail
                      refine Calm.region0 S 12 (by kernel_rfl) (by kernel_rfl) (fun S=> ?_)
                      iterate 2 (first|(refine wn_move rfl (by rfl) (Or.inl rfl) ?_;simp only[Act.put,Act.eval,zQ])|(apply wn_val rfl (by rfl);(intro w;go_simp;rfl);simp only[Act.put,Act.eval,zQ]))
                      (refine Calm.gn_load (ty:=39) rfl ?_;refine wn_loadE (ty:=39) (b:=bQ) (v:= .int .u64 x) S rfl (by rfl) rfl rfl (by repeat constructor) HX.out o64 ?_;simp only[Act.put,Act.eval,zQ])
                      iterate 5 (first|(refine wn_move rfl (by rfl) (Or.inl rfl) ?_;simp only[Act.put,Act.eval,zQ])|(apply wn_val rfl (by rfl);(intro w;go_simp;rfl);simp only[Act.put,Act.eval,zQ]))
                      (refine Calm.gn_load (ty:=39) rfl ?_;refine wn_loadE (ty:=39) (b:=bT) (v:= .int .u64 u) S rfl (by rfl) rfl rfl (by repeat constructor) HT.out o64 ?_;simp only[Act.put,Act.eval,zQ])
                      repeat(first|(refine wn_move rfl (by rfl) (Or.inl rfl) ?_;simp only[Act.put,Act.eval,zQ])|(apply wn_val rfl (by rfl);(intro w;go_simp;rfl);simp only[Act.put,Act.eval,zQ]))
                      (refine wn_nil ?_;clear S;intro W S;simp only[Act.put,List.setIfInBounds_toArray,List.set_cons_zero,List.set_cons_succ,List.drop_succ_cons,List.drop_zero,List.drop_nil])
                      try rw[f1]
                      try rw[f2]
                      try rw[f3]
                      go_wp2_with (first|(refine g_store (ty:=39) rfl ?_;refine wl_storeE (ty:=39) (b:=bD) (cs:=arr .u64 9 (mixG (fun _=>0) (gset G k (z%4294967296)) (k+1))) S rfl rfl rfl rfl (mix_set _ _ _ _ _) (by repeat(first|exact foc_hd|apply foc_tl)) o64 (by rw[Go.Arr.arr_size];omega) rfl ?_;clear S;intro W S))
                      go_roundw
                      case rel=>exact⟨k+1,_,_,by omega,by go_num,rfl,Hst.out,S⟩
                      case measure=>simp[intOf];omega
                    · have hk' : k = 9 := by omega
                      subst hk'
                      have hV9:=HVb.out
                      rcases sub_end V U G c ⟨hV0,hVc⟩ ⟨hU.1,by unfold el at *; omega⟩ hC with⟨rfl,hle,hE⟩|⟨rfl,hlt4⟩
                      · rw [hE] at S
                        clear hE hV9
                        go_wp2_with (first|(refine g_load (ty:=131) rfl ?_;refine wl_load (ty:=131) S rfl rfl rfl (by repeat constructor) aggLg (by first|exact(Go.Arr.arr_size _ _ _).symm|rfl) ?_)|(refine g_store (ty:=131) rfl ?_;refine wl_store (ty:=131) S rfl rfl rfl rfl (by repeat(first|exact foc_hd|apply foc_tl)) aggLg (by first|exact(Go.Arr.arr_size _ _ _).symm|rfl) (by first|exact(Go.Arr.arr_size _ _ _).symm|rfl) (by first|exact Go.Arr.arr_one _ _ _|rfl|simp[Value.oneCell']) ?_;clear S;intro W S))
                        go_roundw
                        case rel=>repeat(first|exact⟨⟨p,V - U,by omega,by go_num,⟨by omega,by rw[← HU.out];omega⟩,by rw[HU.out,sub_mod_el];exact HVm.out,S.tail⟩,rfl⟩|apply Exists.intro)
                        case measure=>simp[intOf]<;>omega
                      · clear hV9
                        go_wp2_with fail
                        refine⟨⟨p,by omega,rfl,V,⟨hV0,by rw[← HU.out];exact hlt4⟩,HVm.out,S.tail⟩,?_⟩
                        simp[intOf]<;>omega
end Go.Proofs.Ytdebkddhpogkgaa

set_option linter.unusedSimpArgs false
namespace Go.Proofs.Ytdebkddhpogkgaa
open Go.RowKit Go.Calm Go.Arr
set_option maxHeartbeats 1000000 in
theorem RWide_c (N:Int) (hN:0≤N∧N<256 ^ 64) (w:World):Calls Try.prog 36 #[.agg (arr .u8 64 (dig 256 N))] w fun e w'=>e= .returned (.agg (arr .u8 32 (dig 256 (N%el))))∧Below w.heap.size w w':=by
  have S:=Calm.St.start w
  go_enter Try.func36,Try.ntmps36
  go_wp2_with (first|(refine wl_box S rfl rfl rfl ?_;clear S;intro b W S)|(refine wl_new (ty:=29) S rfl rfl zeroSc ?_;clear S;intro b W S))
  rename_i bN _ _ _ _ _
  refine(Rest_c (dig 256 N) 64 (by omega) (fun j _=>dig_bd b_pos N j) bN 64 (arr .u8 64 (dig 256 N)) 33 _ (S.has ⟨bN,arr .u8 64 (dig 256 N),33⟩ (by repeat constructor)) (fun j hj=>arr_at .u8 64 _ j hj)).mono ?_
  rintro e W1 ⟨he,hb⟩
  rw[dig_v b_pos N 64 hN.1 hN.2] at he
  subst he
  have S:=S.call hb
  clear hb
  go_wp2_with ((refine g_store (ty:=29) rfl ?_;refine wl_store (ty:=29) S rfl rfl rfl rfl (by repeat(first|exact foc_hd|apply foc_tl)) aggSc (by first|exact(Go.Arr.arr_size _ _ _).symm|rfl) (by first|exact(Go.Arr.arr_size _ _ _).symm|rfl) (by first|exact Go.Arr.arr_one _ _ _|rfl|simp[Value.oneCell']) ?_;clear S;intro W S))
  refine Calm.ret_cell S (by rfl) (by rfl) (by repeat constructor) aggSc (arr_size _ _ _).symm (by rfl) ?_
  exact⟨rfl,S.below⟩
end Go.Proofs.Ytdebkddhpogkgaa
