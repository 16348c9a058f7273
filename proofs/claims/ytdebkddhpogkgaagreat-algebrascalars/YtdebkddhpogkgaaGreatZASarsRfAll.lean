import Derived.Test.YtdebkddhpogkgaaGreatZASarsRfMay
set_option linter.unusedSimpArgs false
namespace Go.Proofs.YtdebkddhpogkgaaGreat
open Go.RowKit Go.Calm Go.Arr
theorem aggLg:Calm.AggT Tryz.prog 81 9:=⟨⟨_,Tryz.underlying81,rfl⟩,by kernel_rfl⟩
theorem zeroLg:(Tryz.prog.info? 81).bind (·.zero)=some (.agg (arr .u64 9 fun _=>0)):=by kernel_rfl
theorem tw_start:arr .u64 9 (tw el 32)=arr .u64 9 (fun _=>0):=by kernel_rfl
theorem tw_set (X:Int) (m q:Nat) (hq:q=m / 4):arr .u64 9 (tw X m)=(arr .u64 9 (tw X (m+1))).setIfInBounds q (.int .u64 (tw X m q)):=by
  rw[← arr_set]
  refine arr_ext fun j _=> ?_
  by_cases e:j=q
  · subst e;rw[gset_eq]
  · rw[gset_ne _ _ _ e];exact(tw_same X m j (by rw[← hq];exact e)).symm
theorem mix_n (n:Nat) (h g:Nat→Int):arr .u64 n (mixG h g n)=arr .u64 n g:=arr_ext fun j hj=>by unfold mixG;rw[if_pos hj]
theorem mix_0 (n:Nat) (h g:Nat→Int):arr .u64 n (mixG h g 0)=arr .u64 n h:=arr_ext fun j _=>by unfold mixG;rw[if_neg (by omega)]
theorem two_k (k:Nat) (hk:k≤8):(1:Int)≤2 ^ k∧(2:Int) ^ k≤256:=by
  have:k=0∨k=1∨k=2∨k=3∨k=4∨k=5∨k=6∨k=7∨k=8:=by omega
  rcases this with rfl|rfl|rfl|rfl|rfl|rfl|rfl|rfl|rfl<;>decide
theorem g_9:(4294967296:Int) ^ 9=4294967296*115792089237316195423570985008687907853269984665640564039457584007913129639936:=by decide
theorem often_end (k:Nat) (hk:k≤8) (g:Nat→Int) (c:Int) (H:Mc 4294967296 (2 ^ k) (dig 4294967296 el) g c 0 9):arr .u64 9 (mixG (dig 4294967296 el) g 9)=arr .u64 9 (dig 4294967296 (2 ^ k*el)):=by
  rw[mix_n,arr_num g_pos .u64 9 g H.lo]
  have he:=H.eq
  have h0:=H.c0
  have hb:=vB_bd g_pos g 9 H.lo
  have h2:=two_k k hk
  rw[dig_v g_pos el 9 (by unfold el;omega) (by rw[g_9];unfold el;omega)] at he
  rw[g_9] at he hb
  have h3:2 ^ k*el≤256*el:=Int.mul_le_mul_of_nonneg_right h2.2 (by unfold el;omega)
  have hc:c=0:=by unfold el at *; omega
  rw[hc] at he
  rw[show vB 4294967296 g 9=2 ^ k*el by omega]
set_option maxHeartbeats 1000000 in
theorem often_c (k : Nat) (hk : k ≤ 8) (w : World) : Calls Tryz.prog 52 #[.int .i64 (k : Int)] w fun e w' => e = .returned (.agg (arr .u64 9 (dig 4294967296 (2 ^ k * el)))) ∧ Below w.heap.size w w' := by
  have S:=Calm.St.start w
  go_enter Tryz.func52,Tryz.ntmps52
  go_wp2_with ((refine wl_new (ty:=81) S rfl rfl zeroLg ?_;clear S;intro b W S))
  rename Nat=>bR
  refine(Order_c _).mono ?_
  rintro e W1 ⟨rfl,hb⟩
  have S:=S.call hb
  clear hb
  go_wp2_with (first|(refine wl_new (ty:=81) S rfl rfl zeroLg ?_;clear S;intro b W S)|(refine wl_new (ty:=22) S rfl rfl zeroB32 ?_;clear S;intro b W S)|(refine g_store (ty:=22) rfl ?_;refine wl_store (ty:=22) S rfl rfl rfl rfl (by repeat(first|exact foc_hd|apply foc_tl)) aggB32 (by first|exact(Go.Arr.arr_size _ _ _).symm|rfl) (by first|exact(Go.Arr.arr_size _ _ _).symm|rfl) (by first|exact Go.Arr.arr_one _ _ _|rfl|simp[Value.oneCell']) ?_;clear S;intro W S))
  rename_i bL _ _ K hK
  rw[← tw_start] at S
  go_loopw [5] (fun i Wr=>∃ m:Nat,m≤32∧i= .int .i64 ((m:Int) - 1)∧Calm.St w Wr [⟨b,arr .u64 9 (tw el m),81⟩,⟨bL,arr .u8 32 (dig 256 el),22⟩,⟨bR,arr .u64 9 (tw el 32),81⟩]) (fun i _=>(intOf i+1).toNat)
  case atStart=>exact⟨32,by omega,rfl,S⟩
  case round =>
    clear S
    obtain⟨m',hm,rfl,S⟩:=hrel
    by_cases h0:m'=0
    · subst h0
      rw[show((0:Nat):Int) - 1= -1 from rfl]
      rw[tw_start,show arr .u64 9 (tw el 0)=arr .u64 9 (dig 4294967296 el) from arr_ext fun j _=>tw_0 el j] at S
      go_wp2_with fail
      rename_i K2 hK2
      go_loopw [6,7] (fun cc i Wr=>∃(j:Nat) (g:Nat→Int) (c:Int),j≤9∧i= .int .i64 (j:Int)∧cc= .int .u64 c∧Mc 4294967296 (2 ^ k) (dig 4294967296 el) g c 0 j∧Calm.St w Wr [⟨b,arr .u64 9 (mixG (dig 4294967296 el) g j),81⟩,⟨bL,arr .u8 32 (dig 256 el),22⟩,⟨bR,arr .u64 9 (fun _=>0),81⟩]) (fun _ i _=>9 - (intOf i).toNat)
      case atStart=>exact⟨0,fun _=>0,0,by omega,rfl,rfl,⟨fun j h=>by omega,by omega,by have:=two_k k hk;omega,by simp[vB]⟩,by rw[mix_0];exact S⟩
      case round =>
        clear S
        obtain⟨j,g,c,hj,rfl,rfl,hC,S⟩:=hrel
        by_cases hlt:j<9
        · have g5 : (j : Int) < 9 := by omega
          have hk64:k≤64:=by omega
          obtain⟨x,hx⟩:∃ x:Int,x=dig 4294967296 el j:=⟨_,rfl⟩
          have hxb:=dig_bd g_pos el j
          have Hx:Hid ((arr .u64 9 (mixG (dig 4294967296 el) g j))[j]? =some (.int .u64 x)):=by rw[hx];exact mix_at 9 _ g j hlt
          have hbd:=hC.bd hxb
          have hst:=fun t ht=>hC.step g_pos hxb t ht
          have h2:=two_k k hk
          rw[← hx] at hxb hbd hst
          have h3:2 ^ k*4294967296≤256*(4294967296:Int):=Int.mul_le_mul_of_nonneg_right h2.2 (by omega)
          have hc0:=hC.c0
          have hxk:0≤2 ^ k*x:=Int.mul_nonneg (by omega) hxb.1
          obtain⟨t,ht⟩:∃ t:Int,t=c+2 ^ k*x:=⟨_,rfl⟩
          rw[← ht] at hbd
          have e1:IntKind.u64.wrap (x*2 ^ k)=x*2 ^ k:=by rw[IntKind.wrap_u64,Int.mul_comm];omega
          have e2:IntKind.u64.wrap (c+x*2 ^ k)=t:=by rw[IntKind.wrap_u64,Int.mul_comm x];omega
          have e3:t.tmod 4294967296=t%4294967296:=Int.tmod_eq_emod_of_nonneg hbd.1
          have e4:IntKind.u64.wrap (t / 4294967296)=t / 4294967296:=by rw[IntKind.wrap_u64];omega
          have Hst:=hide (hst t ht)
          have ht0:0≤t:=hbd.1
          have ht1:t<18446744073709551616:=by omega
          clear hst ht hx hbd h2 h3 hxk
          go_wp2_with (first|(refine g_load (ty:=24) rfl ?_;refine wl_loadE (ty:=24) (b:=b) (v:= .int .u64 x) S rfl rfl rfl (by repeat constructor) Hx.out o64 ?_)|(refine g_store (ty:=24) rfl ?_;refine wl_storeE (ty:=24) (b:=b) (cs:=arr .u64 9 (mixG (dig 4294967296 el) (gset g j (t%4294967296)) (j+1))) S rfl rfl rfl rfl (mix_set _ _ _ _ _) (by repeat(first|exact foc_hd|apply foc_tl)) o64 (by rw[Go.Arr.arr_size];omega) rfl ?_;clear S;intro W S))
          go_roundw
          case rel=>exact⟨j+1,_,_,by omega,by go_num,rfl,Hst.out,S⟩
          case measure=>simp[intOf];omega
        · have hj' : j = 9 := by omega
          subst hj'
          rw[often_end k hk g c hC] at S
          go_wp2_with (first|(refine g_load (ty:=81) rfl ?_;refine wl_load (ty:=81) S rfl rfl rfl (by repeat constructor) aggLg (by first|exact(Go.Arr.arr_size _ _ _).symm|rfl) ?_)|(refine g_store (ty:=81) rfl ?_;refine wl_store (ty:=81) S rfl rfl rfl rfl (by repeat(first|exact foc_hd|apply foc_tl)) aggLg (by first|exact(Go.Arr.arr_size _ _ _).symm|rfl) (by first|exact(Go.Arr.arr_size _ _ _).symm|rfl) (by first|exact Go.Arr.arr_one _ _ _|rfl|simp[Value.oneCell']) ?_;clear S;intro W S))
          refine Calm.ret_cell S (by rfl) (by rfl) (by repeat constructor) aggLg (arr_size _ _ _).symm (by rfl) ?_
          exact⟨rfl,S.below⟩
    · obtain ⟨m, rfl⟩ : ∃ m, m' = m + 1 := ⟨m' - 1, by omega⟩
      have em:((m+1:Nat):Int) - 1=(m:Int):=by omega
      rw[em]
      have hm8:(m:Int)<32:=by omega
      obtain⟨q,hq⟩:∃ q:Nat,q=m / 4:=⟨_,rfl⟩
      have g1:IntKind.i64.wrap ((m:Int) / 4)=(q:Int):=by rw[wrap_small _ (by omega) (by omega)];omega
      have g2:(q:Int)<9:=by omega
      have hq9:q<9:=by omega
      obtain⟨x,hx⟩:∃ x:Int,x=tw el (m+1) q:=⟨_,rfl⟩
      obtain⟨y,hy⟩:∃ y:Int,y=tw el m q:=⟨_,rfl⟩
      have Hx:Hid ((arr .u64 9 (tw el (m+1)))[q]? =some (.int .u64 x)):=by rw[hx];exact arr_at _ _ _ q hq9
      have Hd:=hide (arr_at .u8 32 (dig 256 el) m (by omega))
      have hst:=tw_step el (by unfold el;omega) m
      have hyb:=tw_bd el m q
      have hxb:=tw_bd el (m+1) q
      have hdb:=dig_bd b_pos el m
      have Hset:Hid (arr .u64 9 (tw el m)=(arr .u64 9 (tw el (m+1))).setIfInBounds q (.int .u64 y)):=by unfold Hid;rw[hy];exact tw_set el m q hq
      rw[← hq,← hx,← hy] at hst
      rw[← hx] at hxb
      rw[← hy] at hyb
      have e1:IntKind.u64.wrap (256*x)=256*x:=by rw[IntKind.wrap_u64];omega
      have e2:IntKind.u64.wrap (dig 256 el m)=dig 256 el m:=by rw[IntKind.wrap_u64];omega
      have e3:IntKind.u64.wrap (256*x+dig 256 el m)=y:=by rw[IntKind.wrap_u64];omega
      clear hst hx hy hq em
      go_wp2_with fail
      refine Calm.region0 S 13 (by kernel_rfl) (by kernel_rfl) (fun S=> ?_)
      iterate 5 (first|(refine wn_move rfl (by rfl) (Or.inl rfl) ?_;simp only[Act.put,Act.eval,zQ])|(apply wn_val rfl (by rfl);(intro w;go_simp;rfl);simp only[Act.put,Act.eval,zQ]))
      (refine Calm.gn_load (ty:=24) rfl ?_;refine wn_loadE (ty:=24) (b:=b) (v:= .int .u64 x) S rfl (by rfl) rfl rfl (by repeat constructor) Hx.out o64 ?_;simp only[Act.put,Act.eval,zQ])
      iterate 3 (first|(refine wn_move rfl (by rfl) (Or.inl rfl) ?_;simp only[Act.put,Act.eval,zQ])|(apply wn_val rfl (by rfl);(intro w;go_simp;rfl);simp only[Act.put,Act.eval,zQ]))
      (refine Calm.gn_load (ty:=5) rfl ?_;refine wn_loadE (ty:=5) (b:=bL) (v:= .int .u8 (dig 256 el m)) S rfl (by rfl) rfl rfl (by repeat constructor) Hd.out oU8 ?_;simp only[Act.put,Act.eval,zQ])
      repeat((apply wn_val rfl (by rfl);(intro w;go_simp;rfl);simp only[Act.put,Act.eval,zQ]))
      (refine wn_nil ?_;clear S;intro W S;simp only[Act.put,List.setIfInBounds_toArray,List.set_cons_zero,List.set_cons_succ,List.drop_succ_cons,List.drop_zero,List.drop_nil])
      try rw[e3]
      go_wp2_with (first|(refine g_store (ty:=24) rfl ?_;refine wl_storeE (ty:=24) (b:=b) (cs:=arr .u64 9 (tw el m)) S rfl rfl rfl rfl (Hset.out) (by repeat(first|exact foc_hd|apply foc_tl)) o64 (by rw[Go.Arr.arr_size];omega) rfl ?_;clear S;intro W S))
      go_roundw
      case rel=>exact⟨m,by omega,by go_num,S⟩
      case measure=>simp[intOf]
end Go.Proofs.YtdebkddhpogkgaaGreat

set_option linter.unusedSimpArgs false
namespace Go.Calm
section
variable {P:Program} {ops:Array Oper} {rest:List Oper} {o:Oper} {a:Act} {w0 W:World} {L:List Blk} {Q:Exit→Act→World→Prop}
theorem wl_loadPre (S:St w0 W L) {ty:TypeId} {x:Operand} {g j:Nat} {cs:Array Value} {t:TypeId} {v:Value} (hw:Region.wanted o (yielded ops a.tmps)=true) (ho:o.op= .load ty x) (hx:a.eval x= .pointer (some ⟨g,j,none⟩)) (hg:w0.heap[g]? =some (.cells cs t (0,0))) (hv:cs[j]? =some v)
    (T:OneT P ty)
    (h:wpList P ops Q rest (a.put o.dst v) W):wpList P ops Q (o :: rest) a W:=by
  obtain⟨d,hu,hd⟩:=T.one
  refine wpList_wanted hw fun K hK=> ?_
  have hW:W.heap[g]? =some (.cells cs t (0,0)):=(S.below.block _ (lt_of_heap hg)).trans hg
  unfold Oper.wp execOp
  simp only[ho,hx,Instr.loadAt,Instr.sureAddr,Sem.run_bind,Sem.run_pure,Result.andThen_ok,run_loadVar_one W g j t ty cs d v hW hv hu hd]
  exact hK _ _ h
end
end Go.Calm
namespace Go.Proofs.YtdebkddhpogkgaaGreat
open Go.RowKit Go.Calm Go.Arr
theorem zeroTb:(Tryz.prog.info? 82).bind (·.zero)=some (.agg (arr .u64 81 fun _=>0)):=by kernel_rfl
def tbG (k:Nat) (j:Nat):Int:=if j<9*k then dig 4294967296 (2 ^ (j / 9)*el) (j%9) else 0
theorem tbR_0:arr .u64 81 (tbG 0)=arr .u64 81 fun _=>0:=arr_ext fun j _=>by simp[tbG]
theorem tb_next (k:Nat) (hk:k<9):Calm.splice (arr .u64 81 (tbG k)) (k*9) (arr .u64 9 (dig 4294967296 (2 ^ k*el)))=arr .u64 81 (tbG (k+1)):=by
  rw[splice_arr .u64 81 9 (k*9) _ _ (by omega)]
  refine arr_ext fun j _=> ?_
  unfold tbG
  split
  · rename_i h
    rw[if_pos (by omega),show j / 9=k by omega,show j%9=j - k*9 by omega]
  · rename_i h
    by_cases h1:j<9*k
    · rw[if_pos h1,if_pos (by omega)]
    · rw[if_neg h1,if_neg (by omega)]
theorem tb_at (p k:Nat) (hp:p<9) (hk:k<9):(arr .u64 81 (tbG 9))[p*9+k]? =some (.int .u64 (dig 4294967296 (2 ^ p*el) k)):=by
  rw[arr_at _ _ _ (p*9+k) (by omega)]
  unfold tbG
  rw[if_pos (by omega),show(p*9+k) / 9=p by omega,show(p*9+k)%9=k by omega]
def hiV (d:Nat→Int) (n m:Nat):Int:=vB 256 (fun j=>d (j+m)) (n - m)
theorem hi_step (d:Nat→Int) (n m:Nat) (h:m<n):hiV d n m=256*hiV d n (m+1)+d m:=by
  unfold hiV
  obtain⟨e,he⟩:∃ e,n - m=1+e:=⟨n - m - 1,by omega⟩
  rw[he,show n - (m+1)=e by omega,vB_split]
  rw[show(fun j=>(fun j=>d (j+m)) (j+1))=fun j=>d (j+(m+1)) from funext fun j=>by show d (j+1+m)=d (j+(m+1));congr 1;omega]
  simp only[vB]
  simp
  omega
theorem mul_end (R b:Int) (g:Nat→Int) (c:Int) (hR:0≤R∧R<el) (hb:0≤b∧b<256) (H:Mc 4294967296 256 (dig 4294967296 R) g c b 9):arr .u64 9 (mixG (dig 4294967296 R) g 9)=arr .u64 9 (dig 4294967296 (256*R+b)):=by
  rw[mix_n,arr_num g_pos .u64 9 g H.lo]
  have he:=H.eq
  have h0:=H.c0
  have hv:=vB_bd g_pos g 9 H.lo
  rw[dig_v g_pos R 9 hR.1 (by rw[g_9];unfold el at hR;omega)] at he
  rw[g_9] at he hv
  have hc:c=0:=by unfold el at *; omega
  rw[hc] at he
  rw[show vB 4294967296 g 9=256*R+b by omega]
theorem sub_end (V U:Int) (g:Nat→Int) (c:Int) (hV:0≤V∧V<512*el) (hU:0≤U∧U<512*el) (H:Br 4294967296 (dig 4294967296 V) (dig 4294967296 U) g c 9):(c=0∧U≤V∧arr .u64 9 (mixG (fun _=>0) g 9)=arr .u64 9 (dig 4294967296 (V - U)))∨(c=1∧V<U):=by
  have he:=H.eq
  have h0:=H.c0
  have h1:=H.c1
  have hv:=vB_bd g_pos g 9 H.lo
  rw[dig_v g_pos V 9 hV.1 (by rw[g_9];unfold el at hV;omega),dig_v g_pos U 9 hU.1 (by rw[g_9];unfold el at hU;omega)] at he
  rw[g_9] at he hv
  have:c=0∨c=1:=by omega
  rcases this with rfl|rfl
  · left
    refine⟨rfl,by omega,?_⟩
    rw[mix_n,arr_num g_pos .u64 9 g H.lo,show vB 4294967296 g 9=V - U by omega]
  · right
    exact⟨rfl,by omega⟩
theorem pow_el (p:Nat) (hp:p≤8):0≤2 ^ p*el∧2 ^ p*el≤256*el:=by
  have:p=0∨p=1∨p=2∨p=3∨p=4∨p=5∨p=6∨p=7∨p=8:=by omega
  unfold el
  rcases this with rfl|rfl|rfl|rfl|rfl|rfl|rfl|rfl|rfl<;>decide
theorem sub_mod_el (V:Int) (p:Nat):(V - 2 ^ p*el)%el=V%el:=by
  rw[show V - 2 ^ p*el=V+el*(-(2 ^ p)) by rw[Int.mul_neg,Int.mul_comm el];omega,Int.add_mul_emod_self_left]
theorem hi_mod (X b:Int):(256*(X%el)+b)%el=(256*X+b)%el:=by
  rw[Int.add_emod,Int.mul_emod,Int.emod_emod_of_dvd _ (Int.dvd_refl _),← Int.mul_emod,← Int.add_emod]
theorem out_byte (X:Int) (hX:0≤X) (q r s:Nat) (hr:r<4) (hs:s=8*r):dig 4294967296 X q / 2 ^ s%256=dig 256 X (4*q+r):=by rw[hs,two_8];exact wd4 X hX q r hr
set_option maxHeartbeats 4000000 in
theorem Rest_c (d : Nat → Int) (n : Nat) (hn : n ≤ 64) (hd : ∀ j, j < n → 0 ≤ d j ∧ d j < 256) (g cap : Nat) (cur : Array Value) (ty : TypeId) (w : World) (hg : w.heap[g]? = some (.cells cur ty (0, 0))) (hc : ∀ j, j < n → cur[j]? = some (.int .u8 (d j))) :
    Calls Tryz.prog 40 #[.slice (some ⟨g,0,none⟩) n cap] w fun e w'=>e= .returned (.agg (arr .u8 32 (dig 256 (vB 256 d n%el))))∧Below w.heap.size w w':=by
  have S:=Calm.St.start w
  have HD:=hide hd
  have HG:=hide hg
  have HC:=hide hc
  clear hd hg hc
  go_enter Tryz.func40,Tryz.ntmps40
  go_wp2_with (first|(refine wl_new (ty:=23) S rfl rfl zeroSc ?_;clear S;intro b W S)|(refine wl_new (ty:=82) S rfl rfl zeroTb ?_;clear S;intro b W S))
  rename_i bR _ K hK
  rename Nat=>bT
  go_loopw [4] (fun i Wr=>∃ k:Nat,k≤9∧i= .int .i64 (k:Int)∧Calm.St w Wr [⟨bT,arr .u64 81 (tbG k),82⟩,⟨bR,arr .u8 32 (fun _=>0),23⟩]) (fun i _=>9 - (intOf i).toNat)
  case atStart=>exact⟨0,by omega,rfl,by rw[tbR_0];exact S⟩
  case round =>
    clear S
    obtain⟨k,hk,rfl,S⟩:=hrel
    by_cases hlt:k<9
    · have g5 : (k : Int) < 9 := by omega
      have Hn:=hide (tb_next k hlt)
      go_wp2_with fail
      refine(often_c k (by omega) _).mono ?_
      rintro e W1 ⟨rfl,hb⟩
      have S:=S.call hb
      clear hb
      go_wp2_with (first|(refine g_store (ty:=81) rfl ?_;refine wl_storeM (ty:=81) (b:=bT) (new:=arr .u64 81 (tbG (k+1))) S rfl rfl rfl rfl (by repeat(first|exact foc_hd|apply foc_tl)) aggLg (arr_size _ _ _).symm (by rw[arr_size,arr_size];omega) (arr_one _ _ _) Hn.out ?_;clear S;intro W S))
      go_roundw
      case rel=>exact⟨k+1,by omega,by go_num,S⟩
      case measure=>simp[intOf];omega
    · have hk' : k = 9 := by omega
      subst hk'
      have hnn:(n:Int)≤64:=by omega
      have e0:IntKind.i64.wrap ((n:Int) - 1)=(n:Int) - 1:=by rw[IntKind.wrap_i64];omega
      go_wp2_with ((refine wl_new (ty:=81) S rfl rfl zeroLg ?_;clear S;intro b W S))
      rename_i K2 hK2
      rename Nat=>bQ
      go_loopw [6] (fun i Wr=>∃ m:Nat,m≤n∧i= .int .i64 ((m:Int) - 1)∧Calm.St w Wr [⟨bQ,arr .u64 9 (dig 4294967296 (hiV d n m%el)),81⟩,⟨bT,arr .u64 81 (tbG 9),82⟩,⟨bR,arr .u8 32 (fun _=>0),23⟩]) (fun i _=>(intOf i+1).toNat)
      case atStart=>exact⟨n,by omega,rfl,by rw[show hiV d n n%el=0 by unfold hiV;rw[Nat.sub_self];rfl,dig_0];exact S⟩
      case round =>
        clear S
        obtain⟨m',hm,rfl,S⟩:=hrel
        by_cases h0:m'=0
        · subst h0
          rw[show((0:Nat):Int) - 1= -1 from rfl]
          obtain⟨X,hX⟩:∃ X:Int,X=vB 256 d n%el:=⟨_,rfl⟩
          have hXb:0≤X:=by rw[hX];unfold el;omega
          rw[show hiV d n 0=vB 256 d n from rfl,← hX] at S
          have HX:=hide hX
          clear hX
          go_wp2_with ((refine wl_new (ty:=23) S rfl rfl zeroSc ?_;clear S;intro b W S))
          rename_i K3 hK3
          rename Nat=>bO
          go_loopw [15] (fun i Wr=>∃ k:Nat,k≤32∧i= .int .i64 (k:Int)∧Calm.St w Wr [⟨bO,arr .u8 32 (firstK X k),23⟩,⟨bQ,arr .u64 9 (dig 4294967296 X),81⟩,⟨bT,arr .u64 81 (tbG 9),82⟩,⟨bR,arr .u8 32 (fun _=>0),23⟩]) (fun i _=>32 - (intOf i).toNat)
          case atStart=>exact⟨0,by omega,rfl,by rw[firstK_0];exact S⟩
          case round =>
            clear S
            obtain⟨k,hk,rfl,S⟩:=hrel
            by_cases hlt2:k<32
            · obtain ⟨q, hq⟩ : ∃ q : Nat, q = k / 4 := ⟨_, rfl⟩
              obtain⟨r,hr⟩:∃ r:Nat,r=k%4:=⟨_,rfl⟩
              obtain⟨s,hs⟩:∃ s:Nat,s=8*r:=⟨_,rfl⟩
              have g1:IntKind.i64.wrap ((k:Int) / 4)=(q:Int):=by rw[wrap_small _ (by omega) (by omega)];omega
              have g2:(k:Int).tmod 4=(r:Int):=by rw[Int.tmod_eq_emod_of_nonneg (by omega)];omega
              have g3:IntKind.i64.wrap (8*(r:Int))=(s:Int):=by rw[wrap_small _ (by omega) (by omega)];omega
              have g4:(q:Int)<9:=by omega
              have g5:(k:Int)<32:=by omega
              have hs64:s≤64:=by omega
              obtain⟨x,hx⟩:∃ x:Int,x=dig 4294967296 X q:=⟨_,rfl⟩
              have Hx:Hid ((arr .u64 9 (dig 4294967296 X))[q]? =some (.int .u64 x)):=by rw[hx];exact arr_at _ _ _ q (by omega)
              have hxb:=dig_bd g_pos X q
              rw[← hx] at hxb
              have HB:Hid (x / 2 ^ s%256=dig 256 X k):=by unfold Hid;rw[hx,out_byte X hXb q r s (by omega) hs,show 4*q+r=k by omega]
              have hxs:0≤x / 2 ^ s:=Int.ediv_nonneg hxb.1 (Int.le_of_lt (Int.pow_pos (by omega)))
              have e1:(x / 2 ^ s).tmod 256=x / 2 ^ s%256:=Int.tmod_eq_emod_of_nonneg hxs
              have e2:IntKind.u8.wrap (x / 2 ^ s%256)=x / 2 ^ s%256:=by rw[IntKind.wrap_u8];omega
              clear hx hq hr hs
              go_wp2_with (first|(refine g_load (ty:=24) rfl ?_;refine wl_loadE (ty:=24) (b:=bQ) (v:= .int .u64 x) S rfl rfl rfl (by repeat constructor) Hx.out o64 ?_)|(refine g_store (ty:=5) rfl ?_;refine wl_storeE (ty:=5) (b:=bO) (cs:=arr .u8 32 (firstK X (k+1))) S rfl rfl rfl rfl (firstK_next X 32 k _ HB.out) (by repeat(first|exact foc_hd|apply foc_tl)) oU8 (by rw[Go.Arr.arr_size];omega) rfl ?_;clear S;intro W S))
              go_roundw
              case rel=>exact⟨k+1,by omega,by go_num,S⟩
              case measure=>simp[intOf];omega
            · have hk' : k = 32 := by omega
              subst hk'
              rw[firstK_n] at S
              go_wp2_with (first|(refine g_load (ty:=23) rfl ?_;refine wl_load (ty:=23) S rfl rfl rfl (by repeat constructor) aggSc (by first|exact(Go.Arr.arr_size _ _ _).symm|rfl) ?_)|(refine g_store (ty:=23) rfl ?_;refine wl_store (ty:=23) S rfl rfl rfl rfl (by repeat(first|exact foc_hd|apply foc_tl)) aggSc (by first|exact(Go.Arr.arr_size _ _ _).symm|rfl) (by first|exact(Go.Arr.arr_size _ _ _).symm|rfl) (by first|exact Go.Arr.arr_one _ _ _|rfl|simp[Value.oneCell']) ?_;clear S;intro W S))
              refine Calm.ret_cell S (by rfl) (by rfl) (by repeat constructor) aggSc (arr_size _ _ _).symm (by rfl) ?_
              exact⟨by rw[HX.out],S.below⟩
        · obtain ⟨m, rfl⟩ : ∃ m, m' = m + 1 := ⟨m' - 1, by omega⟩
          have em:((m+1:Nat):Int) - 1=(m:Int):=by omega
          rw[em]
          have hmn:(m:Int)<(n:Int):=by omega
          have hmn':m<n:=by omega
          have hdm:=HD.out m hmn'
          obtain⟨y,hy⟩:∃ y:Int,y=d m:=⟨_,rfl⟩
          have Hx:=hide (HC.out m hmn')
          obtain⟨R,hR⟩:∃ R:Int,R=hiV d n (m+1)%el:=⟨_,rfl⟩
          have hRb:0≤R∧R<el:=by rw[hR];unfold el;omega
          have HH:Hid (hiV d n m%el=(256*R+y)%el):=by unfold Hid;rw[hR,hi_mod,hy,hi_step d n m hmn']
          rw[← hy] at hdm Hx
          rw[← hR] at S
          have e1:IntKind.u64.wrap y=y:=by rw[IntKind.wrap_u64];omega
          have HRb:=hide hRb
          clear hR hy em hRb
          go_wp2_with (first|(refine g_load (ty:=5) rfl ?_;refine wl_loadPre (ty:=5) (g:=g) (v:= .int .u8 y) S rfl rfl rfl HG.out Hx.out oU8 ?_))
          rename_i K3 hK3
          go_loopw [7,8] (fun cc kk Wr=>∃(k:Nat) (G:Nat→Int) (c:Int),k≤9∧kk= .int .i64 (k:Int)∧cc= .int .u64 c∧Mc 4294967296 256 (dig 4294967296 R) G c y k∧Calm.St w Wr [⟨bQ,arr .u64 9 (mixG (dig 4294967296 R) G k),81⟩,⟨bT,arr .u64 81 (tbG 9),82⟩,⟨bR,arr .u8 32 (fun _=>0),23⟩]) (fun _ kk _=>9 - (intOf kk).toNat)
          case atStart=>exact⟨0,fun _=>0,y,by omega,rfl,rfl,⟨fun j h=>by omega,hdm.1,hdm.2,by simp[vB]⟩,by rw[mix_0];exact S⟩
          case round =>
            clear S
            obtain⟨k,G,c,hk,rfl,rfl,hC,S⟩:=hrel
            by_cases hlt2:k<9
            · have g5 : (k : Int) < 9 := by omega
              obtain⟨x,hx⟩:∃ x:Int,x=dig 4294967296 R k:=⟨_,rfl⟩
              have hxb:=dig_bd g_pos R k
              have HX:Hid ((arr .u64 9 (mixG (dig 4294967296 R) G k))[k]? =some (.int .u64 x)):=by rw[hx];exact mix_at 9 _ G k hlt2
              have hbd:=hC.bd hxb
              have hst:=fun t ht=>hC.step g_pos hxb t ht
              rw[← hx] at hxb hbd hst
              have hc0:=hC.c0
              obtain⟨t,ht⟩:∃ t:Int,t=c+256*x:=⟨_,rfl⟩
              rw[← ht] at hbd
              have f1:IntKind.u64.wrap (256*x)=256*x:=by rw[IntKind.wrap_u64];omega
              have f2:IntKind.u64.wrap (c+256*x)=t:=by rw[IntKind.wrap_u64];omega
              have f3:t.tmod 4294967296=t%4294967296:=Int.tmod_eq_emod_of_nonneg hbd.1
              have f4:IntKind.u64.wrap (t / 4294967296)=t / 4294967296:=by rw[IntKind.wrap_u64];omega
              have Hst:=hide (hst t ht)
              have ht0:0≤t:=hbd.1
              have ht1:t<18446744073709551616:=by omega
              clear hst ht hx hbd
              go_wp2_with (first|(refine g_load (ty:=24) rfl ?_;refine wl_loadE (ty:=24) (b:=bQ) (v:= .int .u64 x) S rfl rfl rfl (by repeat constructor) HX.out o64 ?_)|(refine g_store (ty:=24) rfl ?_;refine wl_storeE (ty:=24) (b:=bQ) (cs:=arr .u64 9 (mixG (dig 4294967296 R) (gset G k (t%4294967296)) (k+1))) S rfl rfl rfl rfl (mix_set _ _ _ _ _) (by repeat(first|exact foc_hd|apply foc_tl)) o64 (by rw[Go.Arr.arr_size];omega) rfl ?_;clear S;intro W S))
              go_roundw
              case rel=>exact⟨k+1,_,_,by omega,by go_num,rfl,Hst.out,S⟩
              case measure=>simp[intOf];omega
            · have hk' : k = 9 := by omega
              subst hk'
              obtain⟨T0,hT0⟩:∃ T0:Int,T0=256*R+y:=⟨_,rfl⟩
              have hTb:0≤T0∧T0<2 ^ 9*el:=by have:=HRb.out;unfold el at *; omega
              rw[mul_end R y G c HRb.out hdm hC,← hT0] at S
              rw[← hT0] at HH
              clear hT0 hC
              go_wp2_with fail
              rename_i K4 hK4
              go_loopw [9] (fun pp Wr=>∃(p:Nat) (V:Int),p≤9∧pp= .int .i64 ((p:Int) - 1)∧(0≤V∧V<2 ^ p*el)∧V%el=T0%el∧Calm.St w Wr [⟨bQ,arr .u64 9 (dig 4294967296 V),81⟩,⟨bT,arr .u64 81 (tbG 9),82⟩,⟨bR,arr .u8 32 (fun _=>0),23⟩]) (fun pp _=>(intOf pp+1).toNat)
              case atStart=>exact⟨9,T0,by omega,rfl,hTb,rfl,S⟩
              case round =>
                clear S
                obtain⟨p',V,hp,rfl,hVb,hVm,S⟩:=hrel
                by_cases hp0:p'=0
                · subst hp0
                  rw[show((0:Nat):Int) - 1= -1 from rfl]
                  have hV2:V=hiV d n m%el:=by
                    rw[HH.out,← hVm]
                    exact(Int.emod_eq_of_lt hVb.1 (by simpa using hVb.2)).symm
                  rw[hV2] at S
                  clear hVb hVm hV2
                  go_wp2_with fail
                  go_roundw
                  case rel=>exact⟨m,by omega,by go_num,S⟩
                  case measure=>simp[intOf]
                · obtain ⟨p, rfl⟩ : ∃ p, p' = p + 1 := ⟨p' - 1, by omega⟩
                  have ep:((p+1:Nat):Int) - 1=(p:Int):=by omega
                  rw[ep]
                  have hp9:(p:Int)<9:=by omega
                  have hp9':p<9:=by omega
                  have hU:=pow_el p (by omega)
                  obtain⟨U,hUU⟩:∃ U:Int,U=2 ^ p*el:=⟨_,rfl⟩
                  have hV2:V<2*U:=by have h9:=hVb.2;rw[Int.pow_succ,Int.mul_comm (2 ^ p) 2,Int.mul_assoc,← hUU] at h9;exact h9
                  have HVb:=hide hVb
                  have HVm:=hide hVm
                  have HTa:=hide (fun k hk=>tb_at p k hp9' hk)
                  rw[← hUU] at hU HTa
                  have HU:=hide hUU
                  have hV0:=hVb.1
                  have hVc:V<512*el:=by omega
                  clear ep hVb hVm hUU
                  go_wp2_with ((refine wl_new (ty:=81) S rfl rfl zeroLg ?_;clear S;intro b W S))
                  rename_i K5 hK5
                  rename Nat=>bD
                  go_loopw [11,12] (fun cc kk Wr=>∃(k:Nat) (G:Nat→Int) (c:Int),k≤9∧kk= .int .i64 (k:Int)∧cc= .int .u64 c∧Br 4294967296 (dig 4294967296 V) (dig 4294967296 U) G c k∧Calm.St w Wr [⟨bD,arr .u64 9 (mixG (fun _=>0) G k),81⟩,⟨bQ,arr .u64 9 (dig 4294967296 V),81⟩,⟨bT,arr .u64 81 (tbG 9),82⟩,⟨bR,arr .u8 32 (fun _=>0),23⟩]) (fun _ kk _=>9 - (intOf kk).toNat)
                  case atStart=>exact⟨0,fun _=>0,0,by omega,rfl,rfl,⟨fun j h=>by omega,by omega,by omega,by simp[vB]⟩,by rw[mix_0];exact S⟩
                  case round =>
                    clear S
                    obtain⟨k,G,c,hk,rfl,rfl,hC,S⟩:=hrel
                    by_cases hlt3:k<9
                    · have g5 : (k : Int) < 9 := by omega
                      obtain⟨x,hx⟩:∃ x:Int,x=dig 4294967296 V k:=⟨_,rfl⟩
                      obtain⟨u,hu⟩:∃ u:Int,u=dig 4294967296 U k:=⟨_,rfl⟩
                      have hxb:=dig_bd g_pos V k
                      have hub:=dig_bd g_pos U k
                      have HX:Hid ((arr .u64 9 (dig 4294967296 V))[k]? =some (.int .u64 x)):=by rw[hx];exact arr_at _ _ _ k hlt3
                      have HT:Hid ((arr .u64 81 (tbG 9))[p*9+k]? =some (.int .u64 u)):=by rw[hu];exact HTa.out k hlt3
                      rw[← hx] at hxb
                      rw[← hu] at hub
                      have hc0:=hC.c0
                      have hc1:=hC.c1
                      obtain⟨z,hz⟩:∃ z:Int,z=4294967296+x - u - c:=⟨_,rfl⟩
                      have f1:IntKind.u64.wrap (4294967296+x)=4294967296+x:=by rw[IntKind.wrap_u64];omega
                      have f2:IntKind.u64.wrap (4294967296+x - u)=4294967296+x - u:=by rw[IntKind.wrap_u64];omega
                      have f3:IntKind.u64.wrap (4294967296+x - u - c)=z:=by rw[IntKind.wrap_u64];omega
                      have hz0:0≤z:=by omega
                      have hz1:z<2*4294967296:=by omega
                      have f4:z.tmod 4294967296=z%4294967296:=Int.tmod_eq_emod_of_nonneg hz0
                      have f5:IntKind.u64.wrap (z / 4294967296)=z / 4294967296:=by rw[IntKind.wrap_u64];omega
                      have f6:IntKind.u64.wrap (1 - z / 4294967296)=1 - z / 4294967296:=by rw[IntKind.wrap_u64];omega
                      have hst:=hC.step (s:=z%4294967296) (o:=1 - z / 4294967296) (by omega) (by omega) (by omega) (by omega) (by rw[← hx,← hu];omega)
                      have Hst:=hide hst
                      clear hst hx hu hz
                      go_wp2_with fail
                      refine Calm.region0 S 12 (by kernel_rfl) (by kernel_rfl) (fun S=> ?_)
                      iterate 2 (first|(refine wn_move rfl (by rfl) (Or.inl rfl) ?_;simp only[Act.put,Act.eval,zQ])|(apply wn_val rfl (by rfl);(intro w;go_simp;rfl);simp only[Act.put,Act.eval,zQ]))
                      (refine Calm.gn_load (ty:=24) rfl ?_;refine wn_loadE (ty:=24) (b:=bQ) (v:= .int .u64 x) S rfl (by rfl) rfl rfl (by repeat constructor) HX.out o64 ?_;simp only[Act.put,Act.eval,zQ])
                      iterate 5 (first|(refine wn_move rfl (by rfl) (Or.inl rfl) ?_;simp only[Act.put,Act.eval,zQ])|(apply wn_val rfl (by rfl);(intro w;go_simp;rfl);simp only[Act.put,Act.eval,zQ]))
                      (refine Calm.gn_load (ty:=24) rfl ?_;refine wn_loadE (ty:=24) (b:=bT) (v:= .int .u64 u) S rfl (by rfl) rfl rfl (by repeat constructor) HT.out o64 ?_;simp only[Act.put,Act.eval,zQ])
                      repeat(first|(refine wn_move rfl (by rfl) (Or.inl rfl) ?_;simp only[Act.put,Act.eval,zQ])|(apply wn_val rfl (by rfl);(intro w;go_simp;rfl);simp only[Act.put,Act.eval,zQ]))
                      (refine wn_nil ?_;clear S;intro W S;simp only[Act.put,List.setIfInBounds_toArray,List.set_cons_zero,List.set_cons_succ,List.drop_succ_cons,List.drop_zero,List.drop_nil])
                      try rw[f1]
                      try rw[f2]
                      try rw[f3]
                      go_wp2_with (first|(refine g_store (ty:=24) rfl ?_;refine wl_storeE (ty:=24) (b:=bD) (cs:=arr .u64 9 (mixG (fun _=>0) (gset G k (z%4294967296)) (k+1))) S rfl rfl rfl rfl (mix_set _ _ _ _ _) (by repeat(first|exact foc_hd|apply foc_tl)) o64 (by rw[Go.Arr.arr_size];omega) rfl ?_;clear S;intro W S))
                      go_roundw
                      case rel=>exact⟨k+1,_,_,by omega,by go_num,rfl,Hst.out,S⟩
                      case measure=>simp[intOf];omega
                    · have hk' : k = 9 := by omega
                      subst hk'
                      have hV9:=HVb.out
                      rcases sub_end V U G c ⟨hV0,hVc⟩ ⟨hU.1,by unfold el at *; omega⟩ hC with⟨rfl,hle,hE⟩|⟨rfl,hlt4⟩
                      · rw [hE] at S
                        clear hE hV9
                        go_wp2_with (first|(refine g_load (ty:=81) rfl ?_;refine wl_load (ty:=81) S rfl rfl rfl (by repeat constructor) aggLg (by first|exact(Go.Arr.arr_size _ _ _).symm|rfl) ?_)|(refine g_store (ty:=81) rfl ?_;refine wl_store (ty:=81) S rfl rfl rfl rfl (by repeat(first|exact foc_hd|apply foc_tl)) aggLg (by first|exact(Go.Arr.arr_size _ _ _).symm|rfl) (by first|exact(Go.Arr.arr_size _ _ _).symm|rfl) (by first|exact Go.Arr.arr_one _ _ _|rfl|simp[Value.oneCell']) ?_;clear S;intro W S))
                        go_roundw
                        case rel=>repeat(first|exact⟨⟨p,V - U,by omega,by go_num,⟨by omega,by rw[← HU.out];omega⟩,by rw[HU.out,sub_mod_el];exact HVm.out,S.tail⟩,rfl⟩|apply Exists.intro)
                        case measure=>simp[intOf]<;>omega
                      · clear hV9
                        go_wp2_with fail
                        refine⟨⟨p,by omega,rfl,V,⟨hV0,by rw[← HU.out];exact hlt4⟩,HVm.out,S.tail⟩,?_⟩
                        simp[intOf]<;>omega
end Go.Proofs.YtdebkddhpogkgaaGreat

set_option linter.unusedSimpArgs false
namespace Go.Proofs.YtdebkddhpogkgaaGreat
open Go.RowKit Go.Calm Go.Arr
theorem zeroB64:(Tryz.prog.info? 55).bind (·.zero)=some (.agg (arr .u8 64 fun _=>0)):=by kernel_rfl
theorem zeroB33:(Tryz.prog.info? 52).bind (·.zero)=some (.agg (arr .u8 33 fun _=>0)):=by kernel_rfl
theorem mixK_set (kd:IntKind) (n:Nat) (h g:Nat→Int) (k:Nat) (s:Int):arr kd n (mixG h (gset g k s) (k+1))=(arr kd n (mixG h g k)).setIfInBounds k (.int kd s):=by
  rw[← arr_set]
  refine arr_ext fun j _=> ?_
  by_cases e:j=k
  · subst e;rw[gset_eq];unfold mixG;rw[if_pos (by omega),gset_eq]
  · rw [gset_ne _ _ _ e]
    unfold mixG
    by_cases hl:j<k
    · rw[if_pos hl,if_pos (by omega),gset_ne _ _ _ e]
    · rw[if_neg hl,if_neg (by omega)]
theorem mixK_0 (kd:IntKind) (n:Nat) (h g:Nat→Int):arr kd n (mixG h g 0)=arr kd n h:=arr_ext fun j _=>by unfold mixG;rw[if_neg (by omega)]
theorem plus_end (A B:Int) (g:Nat→Int) (c:Int) (hA:Ok8 A) (hB:Ok8 B) (H:Cy 256 (dig 256 A) (dig 256 B) g c 32):vB 256 (gset (mixG (fun _=>0) g 32) 32 c) 33=A+B:=by
  have he:=H.eq
  rw[by_v A hA,by_v B hB] at he
  show vB 256 (gset (mixG (fun _=>0) g 32) 32 c) 32+gset (mixG (fun _=>0) g 32) 32 c 32*256 ^ 32=A+B
  rw[show vB 256 (gset (mixG (fun _=>0) g 32) 32 c) 32=vB 256 g 32 from(vB_low _ 32 c).trans (vB_ext 32 fun j hj=>by unfold mixG;rw[if_pos hj]),gset_eq]
  exact he
theorem plus_bd (A B:Int) (g:Nat→Int) (c:Int) (H:Cy 256 (dig 256 A) (dig 256 B) g c 32):∀ j,j<33→0≤gset (mixG (fun _=>0) g 32) 32 c j∧gset (mixG (fun _=>0) g 32) 32 c j<256:=by
  intro j hj
  have h0:=H.c0
  have h1:=H.c1
  by_cases e:j=32
  · subst e;rw[gset_eq];omega
  · rw [gset_ne _ _ _ e]
    unfold mixG
    rw[if_pos (by omega)]
    exact H.lo j (by omega)
set_option maxHeartbeats 1000000 in
theorem RPlus_c (A B:Int) (hA:Ok8 A) (hB:Ok8 B) (w:World):Calls Tryz.prog 22 #[.agg (arr .u8 32 (dig 256 A)),.agg (arr .u8 32 (dig 256 B))] w fun e w'=>e= .returned (.agg (arr .u8 32 (dig 256 ((A+B)%el))))∧Below w.heap.size w w':=by
  have S:=Calm.St.start w
  go_enter Tryz.func22,Tryz.ntmps22
  go_wp2_with (first|(refine wl_box S rfl rfl rfl ?_;clear S;intro b W S)|(refine wl_new (ty:=23) S rfl rfl zeroSc ?_;clear S;intro b W S)|(refine g_load (ty:=23) rfl ?_;refine wl_load (ty:=23) S rfl rfl rfl (by repeat constructor) aggSc (by first|exact(Go.Arr.arr_size _ _ _).symm|rfl) ?_)|(refine g_store (ty:=23) rfl ?_;refine wl_store (ty:=23) S rfl rfl rfl rfl (by repeat(first|exact foc_hd|apply foc_tl)) aggSc (by first|exact(Go.Arr.arr_size _ _ _).symm|rfl) (by first|exact(Go.Arr.arr_size _ _ _).symm|rfl) (by first|exact Go.Arr.arr_one _ _ _|rfl|simp[Value.oneCell']) ?_;clear S;intro W S)|(refine wl_new (ty:=52) S rfl rfl zeroB33 ?_;clear S;intro b W S)|(refine g_load (ty:=52) rfl ?_;refine wl_load (ty:=52) S rfl rfl rfl (by repeat constructor) aggB33 (by first|exact(Go.Arr.arr_size _ _ _).symm|rfl) ?_)|(refine g_store (ty:=52) rfl ?_;refine wl_store (ty:=52) S rfl rfl rfl rfl (by repeat(first|exact foc_hd|apply foc_tl)) aggB33 (by first|exact(Go.Arr.arr_size _ _ _).symm|rfl) (by first|exact(Go.Arr.arr_size _ _ _).symm|rfl) (by first|exact Go.Arr.arr_one _ _ _|rfl|simp[Value.oneCell']) ?_;clear S;intro W S))
  rename_i bA _ bB _ bR _ K hK
  go_loopw [6,7] (fun cc kk Wr=>∃(k:Nat) (g:Nat→Int) (c:Int),k≤32∧kk= .int .i64 (k:Int)∧cc= .int .i64 c∧Cy 256 (dig 256 A) (dig 256 B) g c k∧Calm.St w Wr [⟨b,arr .u8 33 (mixG (fun _=>0) g k),52⟩,⟨bR,arr .u8 32 (fun _=>0),23⟩,⟨bB,arr .u8 32 (dig 256 B),23⟩,⟨bA,arr .u8 32 (dig 256 A),23⟩]) (fun _ kk _=>32 - (intOf kk).toNat)
  case atStart=>exact⟨0,fun _=>0,0,by omega,rfl,rfl,⟨fun j h=>by omega,by omega,by omega,by simp[vB]⟩,by rw[mixK_0];exact S⟩
  case round =>
    clear S
    obtain⟨k,g,c,hk,rfl,rfl,hC,S⟩:=hrel
    by_cases hlt:k<32
    · have g5 : (k : Int) < 32 := by omega
      have g6:(k:Int)<33:=by omega
      have ba:=dig_bd b_pos A k
      have bb:=dig_bd b_pos B k
      have Ha:=hide (arr_at .u8 32 (dig 256 A) k hlt)
      have Hb:=hide (arr_at .u8 32 (dig 256 B) k hlt)
      have hc0:=hC.c0
      have hc1:=hC.c1
      obtain⟨t,ht⟩:∃ t:Int,t=c+dig 256 A k+dig 256 B k:=⟨_,rfl⟩
      have w1:IntKind.i64.wrap (dig 256 A k)=dig 256 A k:=by rw[IntKind.wrap_i64];omega
      have w2:IntKind.i64.wrap (dig 256 B k)=dig 256 B k:=by rw[IntKind.wrap_i64];omega
      have e1:IntKind.i64.wrap (c+dig 256 A k)=c+dig 256 A k:=by rw[IntKind.wrap_i64];omega
      have e2:IntKind.i64.wrap (c+dig 256 A k+dig 256 B k)=t:=by rw[IntKind.wrap_i64];omega
      have ht0:0≤t:=by omega
      have ht1:t<512:=by omega
      have e3:t.tmod 256=t%256:=Int.tmod_eq_emod_of_nonneg ht0
      have e4:IntKind.u8.wrap (t%256)=t%256:=by rw[IntKind.wrap_u8];omega
      have e5:IntKind.i64.wrap (t / 256)=t / 256:=by rw[IntKind.wrap_i64];omega
      have e6:t.tdiv 256=t / 256:=Int.tdiv_eq_ediv_of_nonneg ht0
      have Hst:=hide (hC.step (s:=t%256) (o:=t / 256) (by omega) (by omega) (by omega) (by omega) (by omega))
      clear ht
      go_wp2_with fail
      refine Calm.region0 S 11 (by kernel_rfl) (by kernel_rfl) (fun S=> ?_)
      iterate 3 (first|(refine wn_skip rfl ?_)|(refine wn_move rfl (by rfl) (Or.inl rfl) ?_;simp only[Act.put,Act.eval,zQ])|(refine wn_move rfl (by rfl) (Or.inr rfl) ?_;simp only[Act.put,Act.eval,zQ])|(refine Calm.gn_load (ty:=58) rfl ?_;refine wn_load (ty:=58) S rfl (by rfl) rfl rfl (by repeat constructor) aggFe (by rfl) ?_;simp only[Act.put,Act.eval,zQ])|(refine Calm.gn_load (ty:=24) rfl ?_;refine wn_loadE (ty:=24) S rfl (by rfl) rfl rfl (by repeat constructor) (by rfl) one64 ?_;simp only[Act.put,Act.eval,zQ])|(apply wn_val rfl (by rfl);(intro w;go_simp;rfl);simp only[Act.put,Act.eval,zQ]))
      (refine Calm.gn_load (ty:=5) rfl ?_;refine wn_loadE (ty:=5) (b:=bA) (v:= .int .u8 (dig 256 A k)) S rfl (by rfl) rfl rfl (by repeat constructor) Ha.out oU8 ?_;simp only[Act.put,Act.eval,zQ])
      iterate 4 (first|(refine wn_skip rfl ?_)|(refine wn_move rfl (by rfl) (Or.inl rfl) ?_;simp only[Act.put,Act.eval,zQ])|(refine wn_move rfl (by rfl) (Or.inr rfl) ?_;simp only[Act.put,Act.eval,zQ])|(refine Calm.gn_load (ty:=58) rfl ?_;refine wn_load (ty:=58) S rfl (by rfl) rfl rfl (by repeat constructor) aggFe (by rfl) ?_;simp only[Act.put,Act.eval,zQ])|(refine Calm.gn_load (ty:=24) rfl ?_;refine wn_loadE (ty:=24) S rfl (by rfl) rfl rfl (by repeat constructor) (by rfl) one64 ?_;simp only[Act.put,Act.eval,zQ])|(apply wn_val rfl (by rfl);(intro w;go_simp;rfl);simp only[Act.put,Act.eval,zQ]))
      (refine Calm.gn_load (ty:=5) rfl ?_;refine wn_loadE (ty:=5) (b:=bB) (v:= .int .u8 (dig 256 B k)) S rfl (by rfl) rfl rfl (by repeat constructor) Hb.out oU8 ?_;simp only[Act.put,Act.eval,zQ])
      repeat(first|(refine wn_skip rfl ?_)|(refine wn_move rfl (by rfl) (Or.inl rfl) ?_;simp only[Act.put,Act.eval,zQ])|(refine wn_move rfl (by rfl) (Or.inr rfl) ?_;simp only[Act.put,Act.eval,zQ])|(refine Calm.gn_load (ty:=58) rfl ?_;refine wn_load (ty:=58) S rfl (by rfl) rfl rfl (by repeat constructor) aggFe (by rfl) ?_;simp only[Act.put,Act.eval,zQ])|(refine Calm.gn_load (ty:=24) rfl ?_;refine wn_loadE (ty:=24) S rfl (by rfl) rfl rfl (by repeat constructor) (by rfl) one64 ?_;simp only[Act.put,Act.eval,zQ])|(apply wn_val rfl (by rfl);(intro w;go_simp;rfl);simp only[Act.put,Act.eval,zQ]))
      (refine wn_nil ?_;clear S;intro W S;simp only[Act.put,List.setIfInBounds_toArray,List.set_cons_zero,List.set_cons_succ,List.drop_succ_cons,List.drop_zero,List.drop_nil])
      try rw[e1]
      try rw[e2]
      go_wp2_with (first|(refine g_store (ty:=5) rfl ?_;refine wl_storeE (ty:=5) (b:=b) (cs:=arr .u8 33 (mixG (fun _=>0) (gset g k (t%256)) (k+1))) S rfl rfl rfl rfl (mixK_set _ _ _ _ _ _) (by repeat(first|exact foc_hd|apply foc_tl)) oU8 (by rw[Go.Arr.arr_size];omega) rfl ?_;clear S;intro W S))
      go_roundw
      case rel=>exact⟨k+1,_,_,by omega,by go_num,rfl,Hst.out,S⟩
      case measure=>simp[intOf];omega
    · have hk' : k = 32 := by omega
      subst hk'
      have hc0:=hC.c0
      have hc1:=hC.c1
      have e4:IntKind.u8.wrap c=c:=by rw[IntKind.wrap_u8];omega
      go_wp2_with (first|(refine g_store (ty:=5) rfl ?_;refine wl_storeE (ty:=5) (b:=b) (cs:=arr .u8 33 (gset (mixG (fun _=>0) g 32) 32 c)) S rfl rfl rfl rfl (arr_set _ _ _ _ _) (by repeat(first|exact foc_hd|apply foc_tl)) oU8 (by rw[Go.Arr.arr_size];omega) rfl ?_;clear S;intro W S))
      refine(Rest_c (gset (mixG (fun _=>0) g 32) 32 c) 33 (by omega) (plus_bd A B g c hC) b 33 (arr .u8 33 (gset (mixG (fun _=>0) g 32) 32 c)) 52 _ (S.has ⟨b,_,52⟩ (by repeat constructor)) (fun j hj=>arr_at .u8 33 _ j hj)).mono ?_
      rintro e W1 ⟨he,hb⟩
      rw[plus_end A B g c hA hB hC] at he
      subst he
      have S:=S.call hb
      clear hb
      go_wp2_with (first|(refine wl_box S rfl rfl rfl ?_;clear S;intro b W S)|(refine wl_new (ty:=23) S rfl rfl zeroSc ?_;clear S;intro b W S)|(refine g_load (ty:=23) rfl ?_;refine wl_load (ty:=23) S rfl rfl rfl (by repeat constructor) aggSc (by first|exact(Go.Arr.arr_size _ _ _).symm|rfl) ?_)|(refine g_store (ty:=23) rfl ?_;refine wl_store (ty:=23) S rfl rfl rfl rfl (by repeat(first|exact foc_hd|apply foc_tl)) aggSc (by first|exact(Go.Arr.arr_size _ _ _).symm|rfl) (by first|exact(Go.Arr.arr_size _ _ _).symm|rfl) (by first|exact Go.Arr.arr_one _ _ _|rfl|simp[Value.oneCell']) ?_;clear S;intro W S))
      refine Calm.ret_cell S (by rfl) (by rfl) (by repeat constructor) aggSc (arr_size _ _ _).symm (by rfl) ?_
      exact⟨rfl,S.below⟩
end Go.Proofs.YtdebkddhpogkgaaGreat

set_option linter.unusedSimpArgs false
namespace Go.Proofs.YtdebkddhpogkgaaGreat
open Go.RowKit Go.Calm Go.Arr
theorem and_all:(List.range 512).all (fun i=>decide (bits .and .i64 ((i:Int) - 256) 255=((i:Int) - 256)%256))=true:=by kernel_rfl
theorem and_255 (x:Int) (h0: -256≤x) (h1:x<256):bits .and .i64 x 255=x%256:=by
  have h:=List.all_eq_true.1 and_all (x+256).toNat (List.mem_range.2 (by omega))
  simp only[decide_eq_true_eq] at h
  have e:(((x+256).toNat:Nat):Int) - 256=x:=by omega
  rw[e] at h
  exact h
theorem minus_end (R:Int) (g:Nat→Int) (c:Int) (hR:0≤R∧R<el) (H:Br 256 (dig 256 el) (dig 256 R) g c 32):arr .u8 32 (mixG (fun _=>0) g 32)=arr .u8 32 (dig 256 (el - R)):=by
  rw[arr_ext (g:=mixG (fun _=>0) g 32) (h:=g) (fun j hj=>by unfold mixG;rw[if_pos hj]),arr_num b_pos .u8 32 g H.lo]
  have he:=H.eq
  have h0:=H.c0
  have h1:=H.c1
  have hb:=vB_bd b_pos g 32 H.lo
  rw[by_v el ok8_el,by_v R (by unfold Ok8;unfold el at hR;omega),b_32] at he
  rw[b_32] at hb
  have:c=0∨c=1:=by omega
  rcases this with rfl|rfl
  · rw[show vB 256 g 32=el - R by omega]
  · omega
set_option maxHeartbeats 1000000 in
theorem RMinus_c (A B : Int) (hA : Ok8 A) (hB : Ok8 B) (w : World) : Calls Tryz.prog 23 #[.agg (arr .u8 32 (dig 256 A)), .agg (arr .u8 32 (dig 256 B))] w fun e w' => e = .returned (.agg (arr .u8 32 (dig 256 ((A - B) % el)))) ∧ Below w.heap.size w w' := by
  have S:=Calm.St.start w
  rw[← sub_el]
  go_enter Tryz.func23,Tryz.ntmps23
  go_wp2_with (first|(refine wl_box S rfl rfl rfl ?_;clear S;intro b W S)|(refine wl_new (ty:=23) S rfl rfl zeroSc ?_;clear S;intro b W S)|(refine g_load (ty:=23) rfl ?_;refine wl_load (ty:=23) S rfl rfl rfl (by repeat constructor) aggSc (by first|exact(Go.Arr.arr_size _ _ _).symm|rfl) ?_)|(refine g_store (ty:=23) rfl ?_;refine wl_store (ty:=23) S rfl rfl rfl rfl (by repeat(first|exact foc_hd|apply foc_tl)) aggSc (by first|exact(Go.Arr.arr_size _ _ _).symm|rfl) (by first|exact(Go.Arr.arr_size _ _ _).symm|rfl) (by first|exact Go.Arr.arr_one _ _ _|rfl|simp[Value.oneCell']) ?_;clear S;intro W S)|(refine wl_new (ty:=22) S rfl rfl zeroB32 ?_;clear S;intro b W S)|(refine g_load (ty:=22) rfl ?_;refine wl_load (ty:=22) S rfl rfl rfl (by repeat constructor) aggB32 (by first|exact(Go.Arr.arr_size _ _ _).symm|rfl) ?_)|(refine g_store (ty:=22) rfl ?_;refine wl_store (ty:=22) S rfl rfl rfl rfl (by repeat(first|exact foc_hd|apply foc_tl)) aggB32 (by first|exact(Go.Arr.arr_size _ _ _).symm|rfl) (by first|exact(Go.Arr.arr_size _ _ _).symm|rfl) (by first|exact Go.Arr.arr_one _ _ _|rfl|simp[Value.oneCell']) ?_;clear S;intro W S))
  rename_i bA _ bB _ _ _ _ _
  rename Nat=>bR
  refine(Order_c _).mono ?_
  rintro e W1 ⟨rfl,hb⟩
  have S:=S.call hb
  clear hb
  go_wp2_with (first|(refine wl_box S rfl rfl rfl ?_;clear S;intro b W S)|(refine wl_new (ty:=23) S rfl rfl zeroSc ?_;clear S;intro b W S)|(refine g_load (ty:=23) rfl ?_;refine wl_load (ty:=23) S rfl rfl rfl (by repeat constructor) aggSc (by first|exact(Go.Arr.arr_size _ _ _).symm|rfl) ?_)|(refine g_store (ty:=23) rfl ?_;refine wl_store (ty:=23) S rfl rfl rfl rfl (by repeat(first|exact foc_hd|apply foc_tl)) aggSc (by first|exact(Go.Arr.arr_size _ _ _).symm|rfl) (by first|exact(Go.Arr.arr_size _ _ _).symm|rfl) (by first|exact Go.Arr.arr_one _ _ _|rfl|simp[Value.oneCell']) ?_;clear S;intro W S)|(refine wl_new (ty:=22) S rfl rfl zeroB32 ?_;clear S;intro b W S)|(refine g_load (ty:=22) rfl ?_;refine wl_load (ty:=22) S rfl rfl rfl (by repeat constructor) aggB32 (by first|exact(Go.Arr.arr_size _ _ _).symm|rfl) ?_)|(refine g_store (ty:=22) rfl ?_;refine wl_store (ty:=22) S rfl rfl rfl rfl (by repeat(first|exact foc_hd|apply foc_tl)) aggB32 (by first|exact(Go.Arr.arr_size _ _ _).symm|rfl) (by first|exact(Go.Arr.arr_size _ _ _).symm|rfl) (by first|exact Go.Arr.arr_one _ _ _|rfl|simp[Value.oneCell']) ?_;clear S;intro W S))
  rename Nat=>bL
  refine(Rest_c (dig 256 B) 32 (by omega) (fun j _=>dig_bd b_pos B j) bB 32 (arr .u8 32 (dig 256 B)) 23 _ (S.has ⟨bB,arr .u8 32 (dig 256 B),23⟩ (by repeat constructor)) (fun j hj=>arr_at .u8 32 _ j hj)).mono ?_
  rintro e W1 ⟨he,hb⟩
  rw[by_v B hB] at he
  subst he
  have S:=S.call hb
  clear hb
  go_wp2_with (first|(refine wl_box S rfl rfl rfl ?_;clear S;intro b W S)|(refine wl_new (ty:=23) S rfl rfl zeroSc ?_;clear S;intro b W S)|(refine g_load (ty:=23) rfl ?_;refine wl_load (ty:=23) S rfl rfl rfl (by repeat constructor) aggSc (by first|exact(Go.Arr.arr_size _ _ _).symm|rfl) ?_)|(refine g_store (ty:=23) rfl ?_;refine wl_store (ty:=23) S rfl rfl rfl rfl (by repeat(first|exact foc_hd|apply foc_tl)) aggSc (by first|exact(Go.Arr.arr_size _ _ _).symm|rfl) (by first|exact(Go.Arr.arr_size _ _ _).symm|rfl) (by first|exact Go.Arr.arr_one _ _ _|rfl|simp[Value.oneCell']) ?_;clear S;intro W S)|(refine wl_new (ty:=22) S rfl rfl zeroB32 ?_;clear S;intro b W S)|(refine g_load (ty:=22) rfl ?_;refine wl_load (ty:=22) S rfl rfl rfl (by repeat constructor) aggB32 (by first|exact(Go.Arr.arr_size _ _ _).symm|rfl) ?_)|(refine g_store (ty:=22) rfl ?_;refine wl_store (ty:=22) S rfl rfl rfl rfl (by repeat(first|exact foc_hd|apply foc_tl)) aggB32 (by first|exact(Go.Arr.arr_size _ _ _).symm|rfl) (by first|exact(Go.Arr.arr_size _ _ _).symm|rfl) (by first|exact Go.Arr.arr_one _ _ _|rfl|simp[Value.oneCell']) ?_;clear S;intro W S))
  rename_i bC _ _ K hK
  go_loopw [8,9] (fun cc kk Wr=>∃(k:Nat) (g:Nat→Int) (c:Int),k≤32∧kk= .int .i64 (k:Int)∧cc= .int .i64 c∧Br 256 (dig 256 el) (dig 256 (B%el)) g c k∧Calm.St w Wr [⟨b,arr .u8 32 (mixG (fun _=>0) g k),23⟩,⟨bC,arr .u8 32 (dig 256 (B%el)),23⟩,⟨bL,arr .u8 32 (dig 256 el),22⟩,⟨bR,arr .u8 32 (fun _=>0),23⟩,⟨bB,arr .u8 32 (dig 256 B),23⟩,⟨bA,arr .u8 32 (dig 256 A),23⟩]) (fun _ kk _=>32 - (intOf kk).toNat)
  case atStart=>exact⟨0,fun _=>0,0,by omega,rfl,rfl,⟨fun j h=>by omega,by omega,by omega,by simp[vB]⟩,by rw[mixK_0];exact S⟩
  case round =>
    clear S
    obtain⟨k,g,c,hk,rfl,rfl,hC,S⟩:=hrel
    by_cases hlt:k<32
    · have g5 : (k : Int) < 32 := by omega
      have ba:=dig_bd b_pos el k
      have bb:=dig_bd b_pos (B%el) k
      obtain⟨x,hx⟩:∃ x:Int,x=dig 256 el k:=⟨_,rfl⟩
      obtain⟨y,hy⟩:∃ y:Int,y=dig 256 (B%el) k:=⟨_,rfl⟩
      have Ha:Hid ((arr .u8 32 (dig 256 el))[k]? =some (.int .u8 x)):=by rw[hx];exact arr_at _ _ _ k hlt
      have Hb:Hid ((arr .u8 32 (dig 256 (B%el)))[k]? =some (.int .u8 y)):=by rw[hy];exact arr_at _ _ _ k hlt
      have hc0:=hC.c0
      have hc1:=hC.c1
      have hstep:=fun s o h1 h2 h3 h4 h5=>hC.step (s:=s) (o:=o) h1 h2 h3 h4 h5
      rw[← hx] at ba hstep
      rw[← hy] at bb hstep
      obtain⟨t,ht⟩:∃ t:Int,t=x - y - c:=⟨_,rfl⟩
      have w1:IntKind.i64.wrap x=x:=by rw[IntKind.wrap_i64];omega
      have w2:IntKind.i64.wrap y=y:=by rw[IntKind.wrap_i64];omega
      have e1:IntKind.i64.wrap (x - y)=x - y:=by rw[IntKind.wrap_i64];omega
      have e2:IntKind.i64.wrap (x - y - c)=t:=by rw[IntKind.wrap_i64];omega
      have e3:bits .and .i64 t 255=t%256:=and_255 t (by omega) (by omega)
      have e4:IntKind.u8.wrap (t%256)=t%256:=by rw[IntKind.wrap_u8];omega
      by_cases hneg:t<0
      · have Hst := hide (hstep (t % 256) 1 (by omega) (by omega) (by omega) (by omega) (by omega))
        clear hstep hx hy ht
        go_wp2_with fail
        refine Calm.region0 S 11 (by kernel_rfl) (by kernel_rfl) (fun S=> ?_)
        iterate 2 (first|(refine wn_skip rfl ?_)|(refine wn_move rfl (by rfl) (Or.inl rfl) ?_;simp only[Act.put,Act.eval,zQ])|(refine wn_move rfl (by rfl) (Or.inr rfl) ?_;simp only[Act.put,Act.eval,zQ])|(refine Calm.gn_load (ty:=58) rfl ?_;refine wn_load (ty:=58) S rfl (by rfl) rfl rfl (by repeat constructor) aggFe (by rfl) ?_;simp only[Act.put,Act.eval,zQ])|(refine Calm.gn_load (ty:=24) rfl ?_;refine wn_loadE (ty:=24) S rfl (by rfl) rfl rfl (by repeat constructor) (by rfl) one64 ?_;simp only[Act.put,Act.eval,zQ])|(apply wn_val rfl (by rfl);(intro w;go_simp;rfl);simp only[Act.put,Act.eval,zQ]))
        (refine Calm.gn_load (ty:=5) rfl ?_;refine wn_loadE (ty:=5) (b:=bL) (v:= .int .u8 x) S rfl (by rfl) rfl rfl (by repeat constructor) Ha.out oU8 ?_;simp only[Act.put,Act.eval,zQ])
        iterate 3 (first|(refine wn_skip rfl ?_)|(refine wn_move rfl (by rfl) (Or.inl rfl) ?_;simp only[Act.put,Act.eval,zQ])|(refine wn_move rfl (by rfl) (Or.inr rfl) ?_;simp only[Act.put,Act.eval,zQ])|(refine Calm.gn_load (ty:=58) rfl ?_;refine wn_load (ty:=58) S rfl (by rfl) rfl rfl (by repeat constructor) aggFe (by rfl) ?_;simp only[Act.put,Act.eval,zQ])|(refine Calm.gn_load (ty:=24) rfl ?_;refine wn_loadE (ty:=24) S rfl (by rfl) rfl rfl (by repeat constructor) (by rfl) one64 ?_;simp only[Act.put,Act.eval,zQ])|(apply wn_val rfl (by rfl);(intro w;go_simp;rfl);simp only[Act.put,Act.eval,zQ]))
        (refine Calm.gn_load (ty:=5) rfl ?_;refine wn_loadE (ty:=5) (b:=bC) (v:= .int .u8 y) S rfl (by rfl) rfl rfl (by repeat constructor) Hb.out oU8 ?_;simp only[Act.put,Act.eval,zQ])
        repeat(first|(refine wn_skip rfl ?_)|(refine wn_move rfl (by rfl) (Or.inl rfl) ?_;simp only[Act.put,Act.eval,zQ])|(refine wn_move rfl (by rfl) (Or.inr rfl) ?_;simp only[Act.put,Act.eval,zQ])|(refine Calm.gn_load (ty:=58) rfl ?_;refine wn_load (ty:=58) S rfl (by rfl) rfl rfl (by repeat constructor) aggFe (by rfl) ?_;simp only[Act.put,Act.eval,zQ])|(refine Calm.gn_load (ty:=24) rfl ?_;refine wn_loadE (ty:=24) S rfl (by rfl) rfl rfl (by repeat constructor) (by rfl) one64 ?_;simp only[Act.put,Act.eval,zQ])|(apply wn_val rfl (by rfl);(intro w;go_simp;rfl);simp only[Act.put,Act.eval,zQ]))
        (refine wn_nil ?_;clear S;intro W S;simp only[Act.put,List.setIfInBounds_toArray,List.set_cons_zero,List.set_cons_succ,List.drop_succ_cons,List.drop_zero,List.drop_nil])
        try rw[e1]
        try rw[e2]
        go_wp2_with (first|(refine g_store (ty:=5) rfl ?_;refine wl_storeE (ty:=5) (b:=b) (cs:=arr .u8 32 (mixG (fun _=>0) (gset g k (t%256)) (k+1))) S rfl rfl rfl rfl (mixK_set _ _ _ _ _ _) (by repeat(first|exact foc_hd|apply foc_tl)) oU8 (by rw[Go.Arr.arr_size];omega) rfl ?_;clear S;intro W S))
        go_roundw
        case rel=>exact⟨k+1,_,_,by omega,by go_num,rfl,Hst.out,S⟩
        case measure=>simp[intOf];omega
      · have Hst := hide (hstep (t % 256) 0 (by omega) (by omega) (by omega) (by omega) (by omega))
        clear hstep hx hy ht
        go_wp2_with fail
        refine Calm.region0 S 11 (by kernel_rfl) (by kernel_rfl) (fun S=> ?_)
        iterate 2 (first|(refine wn_skip rfl ?_)|(refine wn_move rfl (by rfl) (Or.inl rfl) ?_;simp only[Act.put,Act.eval,zQ])|(refine wn_move rfl (by rfl) (Or.inr rfl) ?_;simp only[Act.put,Act.eval,zQ])|(refine Calm.gn_load (ty:=58) rfl ?_;refine wn_load (ty:=58) S rfl (by rfl) rfl rfl (by repeat constructor) aggFe (by rfl) ?_;simp only[Act.put,Act.eval,zQ])|(refine Calm.gn_load (ty:=24) rfl ?_;refine wn_loadE (ty:=24) S rfl (by rfl) rfl rfl (by repeat constructor) (by rfl) one64 ?_;simp only[Act.put,Act.eval,zQ])|(apply wn_val rfl (by rfl);(intro w;go_simp;rfl);simp only[Act.put,Act.eval,zQ]))
        (refine Calm.gn_load (ty:=5) rfl ?_;refine wn_loadE (ty:=5) (b:=bL) (v:= .int .u8 x) S rfl (by rfl) rfl rfl (by repeat constructor) Ha.out oU8 ?_;simp only[Act.put,Act.eval,zQ])
        iterate 3 (first|(refine wn_skip rfl ?_)|(refine wn_move rfl (by rfl) (Or.inl rfl) ?_;simp only[Act.put,Act.eval,zQ])|(refine wn_move rfl (by rfl) (Or.inr rfl) ?_;simp only[Act.put,Act.eval,zQ])|(refine Calm.gn_load (ty:=58) rfl ?_;refine wn_load (ty:=58) S rfl (by rfl) rfl rfl (by repeat constructor) aggFe (by rfl) ?_;simp only[Act.put,Act.eval,zQ])|(refine Calm.gn_load (ty:=24) rfl ?_;refine wn_loadE (ty:=24) S rfl (by rfl) rfl rfl (by repeat constructor) (by rfl) one64 ?_;simp only[Act.put,Act.eval,zQ])|(apply wn_val rfl (by rfl);(intro w;go_simp;rfl);simp only[Act.put,Act.eval,zQ]))
        (refine Calm.gn_load (ty:=5) rfl ?_;refine wn_loadE (ty:=5) (b:=bC) (v:= .int .u8 y) S rfl (by rfl) rfl rfl (by repeat constructor) Hb.out oU8 ?_;simp only[Act.put,Act.eval,zQ])
        repeat(first|(refine wn_skip rfl ?_)|(refine wn_move rfl (by rfl) (Or.inl rfl) ?_;simp only[Act.put,Act.eval,zQ])|(refine wn_move rfl (by rfl) (Or.inr rfl) ?_;simp only[Act.put,Act.eval,zQ])|(refine Calm.gn_load (ty:=58) rfl ?_;refine wn_load (ty:=58) S rfl (by rfl) rfl rfl (by repeat constructor) aggFe (by rfl) ?_;simp only[Act.put,Act.eval,zQ])|(refine Calm.gn_load (ty:=24) rfl ?_;refine wn_loadE (ty:=24) S rfl (by rfl) rfl rfl (by repeat constructor) (by rfl) one64 ?_;simp only[Act.put,Act.eval,zQ])|(apply wn_val rfl (by rfl);(intro w;go_simp;rfl);simp only[Act.put,Act.eval,zQ]))
        (refine wn_nil ?_;clear S;intro W S;simp only[Act.put,List.setIfInBounds_toArray,List.set_cons_zero,List.set_cons_succ,List.drop_succ_cons,List.drop_zero,List.drop_nil])
        try rw[e1]
        try rw[e2]
        go_wp2_with (first|(refine g_store (ty:=5) rfl ?_;refine wl_storeE (ty:=5) (b:=b) (cs:=arr .u8 32 (mixG (fun _=>0) (gset g k (t%256)) (k+1))) S rfl rfl rfl rfl (mixK_set _ _ _ _ _ _) (by repeat(first|exact foc_hd|apply foc_tl)) oU8 (by rw[Go.Arr.arr_size];omega) rfl ?_;clear S;intro W S))
        go_roundw
        case rel=>exact⟨k+1,_,_,by omega,by go_num,rfl,Hst.out,S⟩
        case measure=>simp[intOf];omega
    · have hk' : k = 32 := by omega
      subst hk'
      rw[minus_end (B%el) g c (by unfold el;omega) hC] at S
      go_wp2_with (first|(refine wl_box S rfl rfl rfl ?_;clear S;intro b W S)|(refine wl_new (ty:=23) S rfl rfl zeroSc ?_;clear S;intro b W S)|(refine g_load (ty:=23) rfl ?_;refine wl_load (ty:=23) S rfl rfl rfl (by repeat constructor) aggSc (by first|exact(Go.Arr.arr_size _ _ _).symm|rfl) ?_)|(refine g_store (ty:=23) rfl ?_;refine wl_store (ty:=23) S rfl rfl rfl rfl (by repeat(first|exact foc_hd|apply foc_tl)) aggSc (by first|exact(Go.Arr.arr_size _ _ _).symm|rfl) (by first|exact(Go.Arr.arr_size _ _ _).symm|rfl) (by first|exact Go.Arr.arr_one _ _ _|rfl|simp[Value.oneCell']) ?_;clear S;intro W S)|(refine wl_new (ty:=22) S rfl rfl zeroB32 ?_;clear S;intro b W S)|(refine g_load (ty:=22) rfl ?_;refine wl_load (ty:=22) S rfl rfl rfl (by repeat constructor) aggB32 (by first|exact(Go.Arr.arr_size _ _ _).symm|rfl) ?_)|(refine g_store (ty:=22) rfl ?_;refine wl_store (ty:=22) S rfl rfl rfl rfl (by repeat(first|exact foc_hd|apply foc_tl)) aggB32 (by first|exact(Go.Arr.arr_size _ _ _).symm|rfl) (by first|exact(Go.Arr.arr_size _ _ _).symm|rfl) (by first|exact Go.Arr.arr_one _ _ _|rfl|simp[Value.oneCell']) ?_;clear S;intro W S))
      refine(RPlus_c A (el - B%el) hA (ok8_neg B) _).mono ?_
      rintro e W1 ⟨rfl,hb⟩
      have S:=S.call hb
      clear hb
      go_wp2_with (first|(refine wl_box S rfl rfl rfl ?_;clear S;intro b W S)|(refine wl_new (ty:=23) S rfl rfl zeroSc ?_;clear S;intro b W S)|(refine g_load (ty:=23) rfl ?_;refine wl_load (ty:=23) S rfl rfl rfl (by repeat constructor) aggSc (by first|exact(Go.Arr.arr_size _ _ _).symm|rfl) ?_)|(refine g_store (ty:=23) rfl ?_;refine wl_store (ty:=23) S rfl rfl rfl rfl (by repeat(first|exact foc_hd|apply foc_tl)) aggSc (by first|exact(Go.Arr.arr_size _ _ _).symm|rfl) (by first|exact(Go.Arr.arr_size _ _ _).symm|rfl) (by first|exact Go.Arr.arr_one _ _ _|rfl|simp[Value.oneCell']) ?_;clear S;intro W S))
      refine Calm.ret_cell S (by rfl) (by rfl) (by repeat constructor) aggSc (arr_size _ _ _).symm (by rfl) ?_
      exact⟨rfl,S.below⟩
end Go.Proofs.YtdebkddhpogkgaaGreat

set_option linter.unusedSimpArgs false
namespace Go.Proofs.YtdebkddhpogkgaaGreat
open Go.RowKit Go.Calm Go.Arr
theorem times_end (A B:Int) (h:Nat→Int) (hA:Ok8 A) (hB:Ok8 B) (hv:vB 256 h 64=vB 256 (dig 256 A) 32*vB 256 (dig 256 B) 32):vB 256 h 64=A*B:=by
  rw[hv,by_v A hA,by_v B hB]
theorem byte_mul (x y:Int) (hx:0≤x∧x<256) (hy:0≤y∧y<256):0≤x*y∧x*y≤65025:=by
  refine⟨Int.mul_nonneg hx.1 hy.1,?_⟩
  have:=Int.mul_le_mul (show x≤255 by omega) (show y≤255 by omega) hy.1 (by omega)
  omega
set_option maxHeartbeats 2000000 in
theorem RTimes_c (A B : Int) (hA : Ok8 A) (hB : Ok8 B) (w : World) : Calls Tryz.prog 24 #[.agg (arr .u8 32 (dig 256 A)), .agg (arr .u8 32 (dig 256 B))] w fun e w' => e = .returned (.agg (arr .u8 32 (dig 256 (A * B % el)))) ∧ Below w.heap.size w w' := by
  have S:=Calm.St.start w
  go_enter Tryz.func24,Tryz.ntmps24
  go_wp2_with (first|(refine wl_box S rfl rfl rfl ?_;clear S;intro b W S)|(refine wl_new (ty:=23) S rfl rfl zeroSc ?_;clear S;intro b W S)|(refine g_load (ty:=23) rfl ?_;refine wl_load (ty:=23) S rfl rfl rfl (by repeat constructor) aggSc (by first|exact(Go.Arr.arr_size _ _ _).symm|rfl) ?_)|(refine g_store (ty:=23) rfl ?_;refine wl_store (ty:=23) S rfl rfl rfl rfl (by repeat(first|exact foc_hd|apply foc_tl)) aggSc (by first|exact(Go.Arr.arr_size _ _ _).symm|rfl) (by first|exact(Go.Arr.arr_size _ _ _).symm|rfl) (by first|exact Go.Arr.arr_one _ _ _|rfl|simp[Value.oneCell']) ?_;clear S;intro W S)|(refine wl_new (ty:=55) S rfl rfl zeroB64 ?_;clear S;intro b W S)|(refine g_load (ty:=55) rfl ?_;refine wl_load (ty:=55) S rfl rfl rfl (by repeat constructor) aggB64 (by first|exact(Go.Arr.arr_size _ _ _).symm|rfl) ?_)|(refine g_store (ty:=55) rfl ?_;refine wl_store (ty:=55) S rfl rfl rfl rfl (by repeat(first|exact foc_hd|apply foc_tl)) aggB64 (by first|exact(Go.Arr.arr_size _ _ _).symm|rfl) (by first|exact(Go.Arr.arr_size _ _ _).symm|rfl) (by first|exact Go.Arr.arr_one _ _ _|rfl|simp[Value.oneCell']) ?_;clear S;intro W S))
  rename_i bA _ bB _ bR _ K hK
  go_loopw [6] (fun ii Wr=>∃(i:Nat) (h:Nat→Int),i≤32∧ii= .int .i64 (i:Int)∧(∀ j,0≤h j∧h j<256)∧(∀ j,i+32≤j→h j=0)∧vB 256 h 64=vB 256 (dig 256 A) i*vB 256 (dig 256 B) 32∧Calm.St w Wr [⟨b,arr .u8 64 h,55⟩,⟨bR,arr .u8 32 (fun _=>0),23⟩,⟨bB,arr .u8 32 (dig 256 B),23⟩,⟨bA,arr .u8 32 (dig 256 A),23⟩]) (fun ii _=>32 - (intOf ii).toNat)
  case atStart=>exact⟨0,_,by omega,rfl,fun j=>by omega,fun _ _=>rfl,by rw[vB_zero];simp[vB],S⟩
  case round =>
    clear S
    obtain⟨i,h,hi,rfl,hh,hz,hv,S⟩:=hrel
    by_cases hlt:i<32
    · have hlt' : (i : Int) < 32 := by omega
      have HZ:=hide hz
      have HV:=hide hv
      have HH:=hide hh
      clear hz hv hh
      go_wp2_with fail
      rename_i K2 hK2
      go_loopw [7,8] (fun cc kk Wr=>∃(k:Nat) (g:Nat→Int) (c:Int),k≤32∧kk= .int .i64 (k:Int)∧cc= .int .i64 c∧Row 256 32 64 (dig 256 A) (dig 256 B) h g i c k∧Calm.St w Wr [⟨b,arr .u8 64 g,55⟩,⟨bR,arr .u8 32 (fun _=>0),23⟩,⟨bB,arr .u8 32 (dig 256 B),23⟩,⟨bA,arr .u8 32 (dig 256 A),23⟩]) (fun _ kk _=>32 - (intOf kk).toNat)
      case atStart=>exact⟨0,h,0,by omega,rfl,rfl,⟨HH.out,HZ.out,by omega,by omega,by simp[vB]⟩,S⟩
      case round =>
        clear S
        obtain⟨k,g,c,hk,rfl,rfl,hR,S⟩:=hrel
        by_cases hk4:k<32
        · have hk4' : (k : Int) < 32 := by omega
          obtain⟨p,hp⟩:∃ p:Nat,p=i+k:=⟨_,rfl⟩
          have g1:IntKind.i64.wrap ((i:Int)+(k:Int))=(p:Int):=by rw[wrap_small _ (by omega) (by omega)];omega
          have g2:(p:Int)<64:=by omega
          have Hx:=hide (arr_at .u8 64 g p (by omega))
          have Ha:=hide (arr_at .u8 32 (dig 256 A) i hlt)
          have Hb:=hide (arr_at .u8 32 (dig 256 B) k hk4)
          have ba:=dig_bd b_pos A i
          have bb:=dig_bd b_pos B k
          have hc0:=hR.c0
          have hc1:=hR.c1
          have hgb:=hR.bd p
          have hm:=byte_mul _ _ ba bb
          obtain⟨t,ht⟩:∃ t:Int,t=c+g p+dig 256 A i*dig 256 B k:=⟨_,rfl⟩
          have w1:IntKind.i64.wrap (dig 256 A i)=dig 256 A i:=by rw[IntKind.wrap_i64];omega
          have w2:IntKind.i64.wrap (dig 256 B k)=dig 256 B k:=by rw[IntKind.wrap_i64];omega
          have w3:IntKind.i64.wrap (g p)=g p:=by rw[IntKind.wrap_i64];omega
          have e0:IntKind.i64.wrap (dig 256 A i*dig 256 B k)=dig 256 A i*dig 256 B k:=by rw[IntKind.wrap_i64];omega
          have e1:IntKind.i64.wrap (c+g p)=c+g p:=by rw[IntKind.wrap_i64];omega
          have e2:IntKind.i64.wrap (c+g p+dig 256 A i*dig 256 B k)=t:=by rw[IntKind.wrap_i64];omega
          have ht0:0≤t:=by omega
          have ht1:t<65536:=by omega
          have e3:t.tmod 256=t%256:=Int.tmod_eq_emod_of_nonneg ht0
          have e4:IntKind.u8.wrap (t%256)=t%256:=by rw[IntKind.wrap_u8];omega
          have e5:IntKind.i64.wrap (t / 256)=t / 256:=by rw[IntKind.wrap_i64];omega
          have e6:t.tdiv 256=t / 256:=Int.tdiv_eq_ediv_of_nonneg ht0
          have HS:Hid (t%256+256*(t / 256)=c+g p+dig 256 A i*dig 256 B k):=by unfold Hid;omega
          have Hp:=hide hp
          clear ht hp hm
          go_wp2_with fail
          refine Calm.region0 S 18 (by kernel_rfl) (by kernel_rfl) (fun S=> ?_)
          iterate 5 (first|(refine wn_skip rfl ?_)|(refine wn_move rfl (by rfl) (Or.inl rfl) ?_;simp only[Act.put,Act.eval,zQ])|(refine wn_move rfl (by rfl) (Or.inr rfl) ?_;simp only[Act.put,Act.eval,zQ])|(refine Calm.gn_load (ty:=58) rfl ?_;refine wn_load (ty:=58) S rfl (by rfl) rfl rfl (by repeat constructor) aggFe (by rfl) ?_;simp only[Act.put,Act.eval,zQ])|(refine Calm.gn_load (ty:=24) rfl ?_;refine wn_loadE (ty:=24) S rfl (by rfl) rfl rfl (by repeat constructor) (by rfl) one64 ?_;simp only[Act.put,Act.eval,zQ])|(apply wn_val rfl (by rfl);(intro w;go_simp;rfl);simp only[Act.put,Act.eval,zQ]))
          (refine Calm.gn_load (ty:=5) rfl ?_;refine wn_loadE (ty:=5) (b:=b) (v:= .int .u8 (g p)) S rfl (by rfl) rfl rfl (by repeat constructor) Hx.out oU8 ?_;simp only[Act.put,Act.eval,zQ])
          iterate 4 (first|(refine wn_skip rfl ?_)|(refine wn_move rfl (by rfl) (Or.inl rfl) ?_;simp only[Act.put,Act.eval,zQ])|(refine wn_move rfl (by rfl) (Or.inr rfl) ?_;simp only[Act.put,Act.eval,zQ])|(refine Calm.gn_load (ty:=58) rfl ?_;refine wn_load (ty:=58) S rfl (by rfl) rfl rfl (by repeat constructor) aggFe (by rfl) ?_;simp only[Act.put,Act.eval,zQ])|(refine Calm.gn_load (ty:=24) rfl ?_;refine wn_loadE (ty:=24) S rfl (by rfl) rfl rfl (by repeat constructor) (by rfl) one64 ?_;simp only[Act.put,Act.eval,zQ])|(apply wn_val rfl (by rfl);(intro w;go_simp;rfl);simp only[Act.put,Act.eval,zQ]))
          (refine Calm.gn_load (ty:=5) rfl ?_;refine wn_loadE (ty:=5) (b:=bA) (v:= .int .u8 (dig 256 A i)) S rfl (by rfl) rfl rfl (by repeat constructor) Ha.out oU8 ?_;simp only[Act.put,Act.eval,zQ])
          iterate 3 (first|(refine wn_skip rfl ?_)|(refine wn_move rfl (by rfl) (Or.inl rfl) ?_;simp only[Act.put,Act.eval,zQ])|(refine wn_move rfl (by rfl) (Or.inr rfl) ?_;simp only[Act.put,Act.eval,zQ])|(refine Calm.gn_load (ty:=58) rfl ?_;refine wn_load (ty:=58) S rfl (by rfl) rfl rfl (by repeat constructor) aggFe (by rfl) ?_;simp only[Act.put,Act.eval,zQ])|(refine Calm.gn_load (ty:=24) rfl ?_;refine wn_loadE (ty:=24) S rfl (by rfl) rfl rfl (by repeat constructor) (by rfl) one64 ?_;simp only[Act.put,Act.eval,zQ])|(apply wn_val rfl (by rfl);(intro w;go_simp;rfl);simp only[Act.put,Act.eval,zQ]))
          (refine Calm.gn_load (ty:=5) rfl ?_;refine wn_loadE (ty:=5) (b:=bB) (v:= .int .u8 (dig 256 B k)) S rfl (by rfl) rfl rfl (by repeat constructor) Hb.out oU8 ?_;simp only[Act.put,Act.eval,zQ])
          repeat(first|(refine wn_skip rfl ?_)|(refine wn_move rfl (by rfl) (Or.inl rfl) ?_;simp only[Act.put,Act.eval,zQ])|(refine wn_move rfl (by rfl) (Or.inr rfl) ?_;simp only[Act.put,Act.eval,zQ])|(refine Calm.gn_load (ty:=58) rfl ?_;refine wn_load (ty:=58) S rfl (by rfl) rfl rfl (by repeat constructor) aggFe (by rfl) ?_;simp only[Act.put,Act.eval,zQ])|(refine Calm.gn_load (ty:=24) rfl ?_;refine wn_loadE (ty:=24) S rfl (by rfl) rfl rfl (by repeat constructor) (by rfl) one64 ?_;simp only[Act.put,Act.eval,zQ])|(apply wn_val rfl (by rfl);(intro w;go_simp;rfl);simp only[Act.put,Act.eval,zQ]))
          (refine wn_nil ?_;clear S;intro W S;simp only[Act.put,List.setIfInBounds_toArray,List.set_cons_zero,List.set_cons_succ,List.drop_succ_cons,List.drop_zero,List.drop_nil])
          try rw[e0]
          try rw[e1]
          try rw[e2]
          go_wp2_with (first|(refine g_store (ty:=5) rfl ?_;refine wl_storeE (ty:=5) (b:=b) (cs:=arr .u8 64 (gset g p (t%256))) S rfl rfl rfl rfl (arr_set _ _ _ _ _) (by repeat(first|exact foc_hd|apply foc_tl)) oU8 (by rw[Go.Arr.arr_size];omega) rfl ?_;clear S;intro W S))
          go_roundw
          case rel=>
            have hp:=Hp.out
            subst hp
            exact⟨k+1,_,_,by omega,by go_num,rfl,hR.step (by omega) hk4 (by omega) (by omega) (by omega) (by omega) HS.out,S⟩
          case measure=>simp[intOf];omega
        · have hk' : k = 32 := by omega
          subst hk'
          obtain⟨p,hp⟩:∃ p:Nat,p=i+32:=⟨_,rfl⟩
          have g1:IntKind.i64.wrap ((i:Int)+32)=(p:Int):=by rw[wrap_small _ (by omega) (by omega)];omega
          have g2:(p:Int)<64:=by omega
          have hc0:=hR.c0
          have hc1:=hR.c1
          have e4:IntKind.u8.wrap c=c:=by rw[IntKind.wrap_u8];omega
          have Hp:=hide hp
          clear hp
          go_wp2_with (first|(refine g_store (ty:=5) rfl ?_;refine wl_storeE (ty:=5) (b:=b) (cs:=arr .u8 64 (gset g p c)) S rfl rfl rfl rfl (arr_set _ _ _ _ _) (by repeat(first|exact foc_hd|apply foc_tl)) oU8 (by rw[Go.Arr.arr_size];omega) rfl ?_;clear S;intro W S))
          go_roundw
          case rel=>
            have hp:=Hp.out
            subst hp
            obtain⟨q1,q2,q3⟩:=hR.close (by omega) HV.out
            exact⟨i+1,_,by omega,by go_num,q1,q2,q3,S⟩
          case measure=>simp[intOf];omega
    · have hk' : i = 32 := by omega
      subst hk'
      go_wp2_with fail
      refine(Rest_c h 64 (by omega) (fun j _=>hh j) b 64 (arr .u8 64 h) 55 _ (S.has ⟨b,arr .u8 64 h,55⟩ (by repeat constructor)) (fun j hj=>arr_at .u8 64 _ j hj)).mono ?_
      rintro e W1 ⟨he,hb⟩
      rw[times_end A B h hA hB hv] at he
      subst he
      have S:=S.call hb
      clear hb
      go_wp2_with (first|(refine wl_box S rfl rfl rfl ?_;clear S;intro b W S)|(refine wl_new (ty:=23) S rfl rfl zeroSc ?_;clear S;intro b W S)|(refine g_load (ty:=23) rfl ?_;refine wl_load (ty:=23) S rfl rfl rfl (by repeat constructor) aggSc (by first|exact(Go.Arr.arr_size _ _ _).symm|rfl) ?_)|(refine g_store (ty:=23) rfl ?_;refine wl_store (ty:=23) S rfl rfl rfl rfl (by repeat(first|exact foc_hd|apply foc_tl)) aggSc (by first|exact(Go.Arr.arr_size _ _ _).symm|rfl) (by first|exact(Go.Arr.arr_size _ _ _).symm|rfl) (by first|exact Go.Arr.arr_one _ _ _|rfl|simp[Value.oneCell']) ?_;clear S;intro W S))
      refine Calm.ret_cell S (by rfl) (by rfl) (by repeat constructor) aggSc (arr_size _ _ _).symm (by rfl) ?_
      exact⟨rfl,S.below⟩
end Go.Proofs.YtdebkddhpogkgaaGreat

set_option linter.unusedSimpArgs false
namespace Go.Proofs.YtdebkddhpogkgaaGreat
open Go.RowKit Go.Calm Go.Arr
theorem by_e:arr .u8 32 (dig 256 (eE:Int))=(arr .u8 32 (dig 256 el)).setIfInBounds 0 (.int .u8 235):=by kernel_rfl
theorem ord_0:(arr .u8 32 (dig 256 el))[0]? =some (.int .u8 237):=by kernel_rfl
theorem wd1b (X:Int) (hX:0≤X) (q r:Nat) (hr:r<8):dig 256 X q / 2 ^ r%2=X / 2 ^ (8*q+r)%2:=by
  obtain⟨Y,rfl⟩:=Int.eq_ofNat_of_zero_le hX
  have e1:(2:Nat) ^ (8*q+r)=256 ^ q*2 ^ r:=by rw[Nat.pow_add,Nat.pow_mul]
  have e2:(256:Nat)=2 ^ r*(2 ^ (7 - r)*2):=by
    rw[← Nat.mul_assoc,← Nat.pow_add,← Nat.pow_succ,show(r+(7 - r)).succ=8 by omega]
  have key:Y / 256 ^ q%256 / 2 ^ r%2=Y / 2 ^ (8*q+r)%2:=by
    rw[e1,← Nat.div_div_eq_div_mul]
    generalize Y / 256 ^ q=y
    rw[e2,Nat.mod_mul_right_div_self,Nat.mod_mul_left_mod]
  have h:=congrArg (fun n:Nat=>(n:Int)) key
  unfold dig
  simp only[Int.natCast_emod,Int.natCast_ediv,Int.natCast_pow] at h ⊢
  exact h
set_option maxRecDepth 100000 in
set_option maxHeartbeats 1000000 in
theorem RInverse_c (A : Int) (hA : Ok8 A) (w : World) : Calls Tryz.prog 26 #[.agg (arr .u8 32 (dig 256 A))] w fun e w' => e = .returned (.agg (arr .u8 32 (dig 256 (invE A)))) ∧ Below w.heap.size w w' := by
  have S:=Calm.St.start w
  have H0:=hide ord_0
  go_enter Tryz.func26,Tryz.ntmps26
  go_wp2_with (first|(refine wl_box S rfl rfl rfl ?_;clear S;intro b W S)|(refine wl_new (ty:=23) S rfl rfl zeroSc ?_;clear S;intro b W S)|(refine g_load (ty:=23) rfl ?_;refine wl_load (ty:=23) S rfl rfl rfl (by repeat constructor) aggSc (by first|exact(Go.Arr.arr_size _ _ _).symm|rfl) ?_)|(refine g_store (ty:=23) rfl ?_;refine wl_store (ty:=23) S rfl rfl rfl rfl (by repeat(first|exact foc_hd|apply foc_tl)) aggSc (by first|exact(Go.Arr.arr_size _ _ _).symm|rfl) (by first|exact(Go.Arr.arr_size _ _ _).symm|rfl) (by first|exact Go.Arr.arr_one _ _ _|rfl|simp[Value.oneCell']) ?_;clear S;intro W S)|(refine wl_new (ty:=22) S rfl rfl zeroB32 ?_;clear S;intro b W S)|(refine g_load (ty:=22) rfl ?_;refine wl_load (ty:=22) S rfl rfl rfl (by repeat constructor) aggB32 (by first|exact(Go.Arr.arr_size _ _ _).symm|rfl) ?_)|(refine g_store (ty:=22) rfl ?_;refine wl_store (ty:=22) S rfl rfl rfl rfl (by repeat(first|exact foc_hd|apply foc_tl)) aggB32 (by first|exact(Go.Arr.arr_size _ _ _).symm|rfl) (by first|exact(Go.Arr.arr_size _ _ _).symm|rfl) (by first|exact Go.Arr.arr_one _ _ _|rfl|simp[Value.oneCell']) ?_;clear S;intro W S))
  rename_i bA _ _ _ _ _
  rename Nat=>bR
  refine(Order_c _).mono ?_
  rintro e W1 ⟨rfl,hb⟩
  have S:=S.call hb
  clear hb
  go_wp2_with (first|(refine wl_box S rfl rfl rfl ?_;clear S;intro b W S)|(refine wl_new (ty:=23) S rfl rfl zeroSc ?_;clear S;intro b W S)|(refine g_load (ty:=23) rfl ?_;refine wl_load (ty:=23) S rfl rfl rfl (by repeat constructor) aggSc (by first|exact(Go.Arr.arr_size _ _ _).symm|rfl) ?_)|(refine g_store (ty:=23) rfl ?_;refine wl_store (ty:=23) S rfl rfl rfl rfl (by repeat(first|exact foc_hd|apply foc_tl)) aggSc (by first|exact(Go.Arr.arr_size _ _ _).symm|rfl) (by first|exact(Go.Arr.arr_size _ _ _).symm|rfl) (by first|exact Go.Arr.arr_one _ _ _|rfl|simp[Value.oneCell']) ?_;clear S;intro W S)|(refine wl_new (ty:=22) S rfl rfl zeroB32 ?_;clear S;intro b W S)|(refine g_load (ty:=22) rfl ?_;refine wl_load (ty:=22) S rfl rfl rfl (by repeat constructor) aggB32 (by first|exact(Go.Arr.arr_size _ _ _).symm|rfl) ?_)|(refine g_store (ty:=22) rfl ?_;refine wl_store (ty:=22) S rfl rfl rfl rfl (by repeat(first|exact foc_hd|apply foc_tl)) aggB32 (by first|exact(Go.Arr.arr_size _ _ _).symm|rfl) (by first|exact(Go.Arr.arr_size _ _ _).symm|rfl) (by first|exact Go.Arr.arr_one _ _ _|rfl|simp[Value.oneCell']) ?_;clear S;intro W S)|(refine g_load (ty:=5) rfl ?_;refine wl_loadE (ty:=5) (b:=b) (v:= .int .u8 237) S rfl rfl rfl (by repeat constructor) H0.out oU8 ?_)|(refine g_store (ty:=5) rfl ?_;refine wl_storeE (ty:=5) (b:=b) (cs:=arr .u8 32 (dig 256 (eE:Int))) S rfl rfl rfl rfl (by_e) (by repeat(first|exact foc_hd|apply foc_tl)) oU8 (by rw[Go.Arr.arr_size];omega) rfl ?_;clear S;intro W S))
  rename Nat=>bE
  refine(ROf2_c 1 (by omega) (by omega) _).mono ?_
  rintro e W1 ⟨rfl,hb⟩
  have S:=S.call hb
  clear hb
  go_wp2_with (first|(refine wl_box S rfl rfl rfl ?_;clear S;intro b W S)|(refine wl_new (ty:=23) S rfl rfl zeroSc ?_;clear S;intro b W S)|(refine g_load (ty:=23) rfl ?_;refine wl_load (ty:=23) S rfl rfl rfl (by repeat constructor) aggSc (by first|exact(Go.Arr.arr_size _ _ _).symm|rfl) ?_)|(refine g_store (ty:=23) rfl ?_;refine wl_store (ty:=23) S rfl rfl rfl rfl (by repeat(first|exact foc_hd|apply foc_tl)) aggSc (by first|exact(Go.Arr.arr_size _ _ _).symm|rfl) (by first|exact(Go.Arr.arr_size _ _ _).symm|rfl) (by first|exact Go.Arr.arr_one _ _ _|rfl|simp[Value.oneCell']) ?_;clear S;intro W S)|(refine wl_new (ty:=22) S rfl rfl zeroB32 ?_;clear S;intro b W S)|(refine g_load (ty:=22) rfl ?_;refine wl_load (ty:=22) S rfl rfl rfl (by repeat constructor) aggB32 (by first|exact(Go.Arr.arr_size _ _ _).symm|rfl) ?_)|(refine g_store (ty:=22) rfl ?_;refine wl_store (ty:=22) S rfl rfl rfl rfl (by repeat(first|exact foc_hd|apply foc_tl)) aggB32 (by first|exact(Go.Arr.arr_size _ _ _).symm|rfl) (by first|exact(Go.Arr.arr_size _ _ _).symm|rfl) (by first|exact Go.Arr.arr_one _ _ _|rfl|simp[Value.oneCell']) ?_;clear S;intro W S))
  rename_i K hK
  go_loopw [5] (fun v Wr=>∃ m:Nat,m≤256∧v= .int .i64 ((m:Int) - 1)∧Calm.St w Wr [⟨b,arr .u8 32 (dig 256 (pe A (eE / 2 ^ m))),23⟩,⟨bE,arr .u8 32 (dig 256 (eE:Int)),22⟩,⟨bR,arr .u8 32 (fun _=>0),23⟩,⟨bA,arr .u8 32 (dig 256 A),23⟩]) (fun v _=>(intOf v+1).toNat)
  case atStart=>exact⟨256,by omega,rfl,by rw[show eE / 2 ^ 256=0 by kernel_rfl,pe_0];exact S⟩
  case round =>
    clear S
    obtain⟨m',hm,rfl,S⟩:=hrel
    by_cases h0:m'=0
    · subst h0
      rw[show((0:Nat):Int) - 1= -1 from rfl]
      rw[Nat.pow_zero,Nat.div_one] at S
      go_wp2_with (first|(refine wl_box S rfl rfl rfl ?_;clear S;intro b W S)|(refine wl_new (ty:=23) S rfl rfl zeroSc ?_;clear S;intro b W S)|(refine g_load (ty:=23) rfl ?_;refine wl_load (ty:=23) S rfl rfl rfl (by repeat constructor) aggSc (by first|exact(Go.Arr.arr_size _ _ _).symm|rfl) ?_)|(refine g_store (ty:=23) rfl ?_;refine wl_store (ty:=23) S rfl rfl rfl rfl (by repeat(first|exact foc_hd|apply foc_tl)) aggSc (by first|exact(Go.Arr.arr_size _ _ _).symm|rfl) (by first|exact(Go.Arr.arr_size _ _ _).symm|rfl) (by first|exact Go.Arr.arr_one _ _ _|rfl|simp[Value.oneCell']) ?_;clear S;intro W S))
      refine Calm.ret_cell S (by rfl) (by rfl) (by repeat constructor) aggSc (arr_size _ _ _).symm (by rfl) ?_
      exact⟨rfl,S.below⟩
    · obtain ⟨t, rfl⟩ : ∃ m, m' = m + 1 := ⟨m' - 1, by omega⟩
      have em:((t+1:Nat):Int) - 1=(t:Int):=by omega
      rw[em]
      obtain⟨q,hq⟩:∃ q:Nat,q=t / 8:=⟨_,rfl⟩
      obtain⟨r,hr⟩:∃ r:Nat,r=t%8:=⟨_,rfl⟩
      have f1:(t:Int)<256:=by omega
      have f3:IntKind.i64.wrap ((t:Int) / 8)=(q:Int):=by rw[wrap_small _ (by omega) (by omega)];omega
      have f4:(t:Int).tmod 8=(r:Int):=by rw[Int.tmod_eq_emod_of_nonneg (by omega)];omega
      have f5:(q:Int)<32:=by omega
      have f6:r≤8:=by omega
      have f7:IntKind.i64.wrap ((t:Int) - 1)=(t:Int) - 1:=by rw[IntKind.wrap_i64];omega
      obtain⟨x,hx⟩:∃ x:Int,x=dig 256 (eE:Int) q:=⟨_,rfl⟩
      have Hx:Hid ((arr .u8 32 (dig 256 (eE:Int)))[q]? =some (.int .u8 x)):=by rw[hx];exact arr_at _ _ _ q (by omega)
      have hxb:=dig_bd b_pos (eE:Int) q
      rw[← hx] at hxb
      have hxr:0≤x / 2 ^ r:=Int.ediv_nonneg hxb.1 (Int.le_of_lt (Int.pow_pos (by omega)))
      have f8:(x / 2 ^ r).tmod 2=((eE / 2 ^ t%2:Nat):Int):=by
        rw[Int.tmod_eq_emod_of_nonneg hxr,hx,wd1b (eE:Int) (by omega) q r (by omega),show 8*q+r=t by omega,Int.natCast_emod,Int.natCast_ediv,Int.natCast_pow];rfl
      have hst:eE / 2 ^ t=2*(eE / 2 ^ (t+1))+eE / 2 ^ t%2:=by
        rw[Nat.pow_succ,← Nat.div_div_eq_div_mul];omega
      have Hst:=hide hst
      clear hq hr hx hst em
      go_wp2_with (first|(refine wl_box S rfl rfl rfl ?_;clear S;intro b W S)|(refine wl_new (ty:=23) S rfl rfl zeroSc ?_;clear S;intro b W S)|(refine g_load (ty:=23) rfl ?_;refine wl_load (ty:=23) S rfl rfl rfl (by repeat constructor) aggSc (by first|exact(Go.Arr.arr_size _ _ _).symm|rfl) ?_)|(refine g_store (ty:=23) rfl ?_;refine wl_store (ty:=23) S rfl rfl rfl rfl (by repeat(first|exact foc_hd|apply foc_tl)) aggSc (by first|exact(Go.Arr.arr_size _ _ _).symm|rfl) (by first|exact(Go.Arr.arr_size _ _ _).symm|rfl) (by first|exact Go.Arr.arr_one _ _ _|rfl|simp[Value.oneCell']) ?_;clear S;intro W S))
      refine(RTimes_c _ _ (ok8_pe _ _) (ok8_pe _ _) _).mono ?_
      rintro e W1 ⟨rfl,hb⟩
      have S:=S.call hb
      clear hb
      rw[pe_dbl]
      have hb01:eE / 2 ^ t%2=0∨eE / 2 ^ t%2=1:=by omega
      rcases hb01 with hb0|hb1
      · rw [hb0] at f8
        have f8':(x / 2 ^ r).tmod 2=0:=f8
        have Hb:=hide hb0
        clear hb0 f8
        go_wp2_with (first|(refine wl_box S rfl rfl rfl ?_;clear S;intro b W S)|(refine wl_new (ty:=23) S rfl rfl zeroSc ?_;clear S;intro b W S)|(refine g_load (ty:=23) rfl ?_;refine wl_load (ty:=23) S rfl rfl rfl (by repeat constructor) aggSc (by first|exact(Go.Arr.arr_size _ _ _).symm|rfl) ?_)|(refine g_store (ty:=23) rfl ?_;refine wl_store (ty:=23) S rfl rfl rfl rfl (by repeat(first|exact foc_hd|apply foc_tl)) aggSc (by first|exact(Go.Arr.arr_size _ _ _).symm|rfl) (by first|exact(Go.Arr.arr_size _ _ _).symm|rfl) (by first|exact Go.Arr.arr_one _ _ _|rfl|simp[Value.oneCell']) ?_;clear S;intro W S)|(refine g_load (ty:=5) rfl ?_;refine wl_loadE (ty:=5) (b:=bE) (v:= .int .u8 x) S rfl rfl rfl (by repeat constructor) Hx.out oU8 ?_))
        go_roundw
        case rel=>exact⟨t,by omega,by go_num,by rw[Hst.out,Hb.out,Nat.add_zero];exact S⟩
        case measure=>simp[intOf]
      · rw [hb1] at f8
        have f8':(x / 2 ^ r).tmod 2=1:=f8
        have Hb:=hide hb1
        clear hb1 f8
        go_wp2_with (first|(refine wl_box S rfl rfl rfl ?_;clear S;intro b W S)|(refine wl_new (ty:=23) S rfl rfl zeroSc ?_;clear S;intro b W S)|(refine g_load (ty:=23) rfl ?_;refine wl_load (ty:=23) S rfl rfl rfl (by repeat constructor) aggSc (by first|exact(Go.Arr.arr_size _ _ _).symm|rfl) ?_)|(refine g_store (ty:=23) rfl ?_;refine wl_store (ty:=23) S rfl rfl rfl rfl (by repeat(first|exact foc_hd|apply foc_tl)) aggSc (by first|exact(Go.Arr.arr_size _ _ _).symm|rfl) (by first|exact(Go.Arr.arr_size _ _ _).symm|rfl) (by first|exact Go.Arr.arr_one _ _ _|rfl|simp[Value.oneCell']) ?_;clear S;intro W S)|(refine g_load (ty:=5) rfl ?_;refine wl_loadE (ty:=5) (b:=bE) (v:= .int .u8 x) S rfl rfl rfl (by repeat constructor) Hx.out oU8 ?_))
        refine(RTimes_c _ _ (ok8_pe _ _) hA _).mono ?_
        rintro e W1 ⟨rfl,hb⟩
        have S:=S.call hb
        clear hb
        rw[pe_succ]
        go_wp2_with (first|(refine wl_box S rfl rfl rfl ?_;clear S;intro b W S)|(refine wl_new (ty:=23) S rfl rfl zeroSc ?_;clear S;intro b W S)|(refine g_load (ty:=23) rfl ?_;refine wl_load (ty:=23) S rfl rfl rfl (by repeat constructor) aggSc (by first|exact(Go.Arr.arr_size _ _ _).symm|rfl) ?_)|(refine g_store (ty:=23) rfl ?_;refine wl_store (ty:=23) S rfl rfl rfl rfl (by repeat(first|exact foc_hd|apply foc_tl)) aggSc (by first|exact(Go.Arr.arr_size _ _ _).symm|rfl) (by first|exact(Go.Arr.arr_size _ _ _).symm|rfl) (by first|exact Go.Arr.arr_one _ _ _|rfl|simp[Value.oneCell']) ?_;clear S;intro W S))
        go_roundw
        case rel=>exact⟨t,by omega,by go_num,by rw[Hst.out,Hb.out];exact S⟩
        case measure=>simp[intOf]
end Go.Proofs.YtdebkddhpogkgaaGreat
