import Derived.Test.YtdebkddhpogkgaaGreatZASarsKnown
set_option linter.unusedSimpArgs false
namespace Go.Proofs.YtdebkddhpogkgaaGreat
open Go.RowKit Go.Calm

def byt (n:Int) (k:Nat):Int:=n / 256 ^ k%256
theorem byt_bd (n:Int) (k:Nat):0≤byt n k∧byt n k<256:=by unfold byt;omega
def byK (n:Int) (k:Nat):Array Value:=((List.range 32).map fun j=>Value.int .u8 (if j<k then byt n j else 0)).toArray
def byC (n:Int):Array Value:=byK n 32
theorem byK_size (n:Int) (k:Nat):(byK n k).size=32:=by simp[byK]
theorem aggBy:Calm.AggT Tryz.prog 22 32:=⟨⟨_,Tryz.underlying22,rfl⟩,by kernel_rfl⟩
theorem oneBy:Calm.OneT Tryz.prog 5:=⟨⟨_,Tryz.underlying5,rfl⟩,by kernel_rfl⟩
theorem zeroBy:(Tryz.prog.info? 22).bind (·.zero)=some (.agg (byK 0 0)):=by kernel_rfl
theorem byK_0 (n m:Int):byK n 0=byK m 0:=by simp[byK]
theorem byK_one (n:Int) (k:Nat):(byK n k).all (·.oneCell')=true:=by simp[byK,Value.oneCell']
theorem byK_next (n:Int) (k:Nat) (v:Int) (hv:v=byt n k):(byK n k).setIfInBounds k (.int .u8 v)=byK n (k+1):=by
  subst hv
  unfold byK
  apply Array.ext
  · simp
  · intro i h1 h2
    rw[Array.getElem_setIfInBounds (by simpa using h1)]
    simp only[List.getElem_toArray,List.getElem_map,List.getElem_range]
    by_cases h:k=i
    · subst h;simp
    · rw [if_neg h]
      by_cases h3:i<k
      · rw[if_pos h3,if_pos (by omega)]
      · rw[if_neg h3,if_neg (by omega)]

theorem wd8_key (X:Nat) (q r:Nat) (hr:r<8):(X / 2 ^ (64*q)%18446744073709551616) / 2 ^ (8*r)%256=X / 256 ^ (8*q+r)%256:=by
  have e1:(256:Nat) ^ (8*q+r)=2 ^ (64*q)*2 ^ (8*r):=by
    rw[show(256:Nat)=2 ^ 8 from rfl,← Nat.pow_mul,← Nat.pow_add];congr 1;omega
  have e2:(18446744073709551616:Nat)=2 ^ (8*r)*(2 ^ (56 - 8*r)*256):=by
    rw[← Nat.mul_assoc,← Nat.pow_add,show 8*r+(56 - 8*r)=56 by omega]
  rw[e1,← Nat.div_div_eq_div_mul]
  generalize X / 2 ^ (64*q)=y
  rw[e2,Nat.mod_mul_right_div_self,Nat.mod_mul_left_mod]
theorem wd8_at (X:Int) (hX:Ok X) (q r s:Nat) (hq:q<4) (hr:r<8) (hs:s=8*r):∃ x:Int,(feC X)[q]? =some (.int .u64 x)∧0≤x∧x<18446744073709551616∧Hid (x / 2 ^ s%256=byt X (8*q+r)):=by
  unfold Ok at hX
  obtain⟨Y,rfl⟩:=Int.eq_ofNat_of_zero_le hX.1
  have key:=wd8_key Y q r hr
  have fin:∀ x:Nat,x=Y / 2 ^ (64*q)%18446744073709551616→Hid (((x:Nat):Int) / 2 ^ s%256=byt (Y:Int) (8*q+r)):=by
    intro x hx
    unfold Hid byt
    rw[hs,hx]
    have h:=congrArg (fun n:Nat=>(n:Int)) key
    simp only[Int.natCast_emod,Int.natCast_ediv,Int.natCast_pow] at h ⊢
    exact h
  have c:q=0∨q=1∨q=2∨q=3:=by omega
  rcases c with rfl|rfl|rfl|rfl
  · exact⟨((Y%18446744073709551616:Nat):Int),by rw[Int.natCast_emod];rfl,by omega,by omega,fin _ (by rw[show 2 ^ (64*0)=1 from rfl];omega)⟩
  · exact⟨((Y / 18446744073709551616%18446744073709551616:Nat):Int),by rw[Int.natCast_emod,Int.natCast_ediv];rfl,by omega,by omega,fin _ rfl⟩
  · exact⟨((Y / 340282366920938463463374607431768211456%18446744073709551616:Nat):Int),by rw[Int.natCast_emod,Int.natCast_ediv];rfl,by omega,by omega,fin _ rfl⟩
  · exact⟨((Y / 6277101735386680763835789423207666416102355444464034512896%18446744073709551616:Nat):Int),by rw[Int.natCast_emod,Int.natCast_ediv];rfl,by omega,by omega,fin _ rfl⟩

set_option maxHeartbeats 1000000 in
theorem Bytes_c (A:Int) (hA:Ok A) (w:World):Calls Tryz.prog 68 #[.agg (feC A)] w fun e w'=>e= .returned (.agg (byC (A%pr)))∧Below w.heap.size w w':=by
  have S:=Calm.St.start w
  go_enter Tryz.func68,Tryz.ntmps68
  go_wp2_with (first|(refine wl_box S rfl rfl rfl ?_;clear S;intro b W S)|(refine g_load (ty:=58) rfl ?_;refine wl_load (ty:=58) S rfl rfl rfl (by repeat constructor) aggFe (by rfl) ?_)|(refine wl_new (ty:=22) S rfl rfl zeroBy ?_;clear S;intro b W S))
  refine(Canon_c A hA _).mono ?_
  rintro e W1 ⟨rfl,hb⟩
  have S:=S.call hb
  clear hb
  go_wp2_with (first|(refine g_store (ty:=58) rfl ?_;refine wl_store (ty:=58) S rfl rfl rfl rfl (by repeat(first|exact foc_hd|apply foc_tl)) aggFe rfl (by rfl) (w4_one _ _ _ _) ?_;clear S;intro W S)|(refine wl_new (ty:=22) S rfl rfl zeroBy ?_;clear S;intro b W S))
  rename_i bA _ bR _ _ _ K hK
  go_loopw [7] (fun i Wr=>∃ k:Nat,k≤32∧i= .int .i64 k∧Calm.St w Wr [⟨b,byK (A%pr) k,22⟩,⟨bR,byK 0 0,22⟩,⟨bA,feC (A%pr),58⟩]) (fun i _=>32 - (intOf i).toNat)
  case atStart=>exact⟨0,by omega,rfl,by rw[byK_0 (A%pr) 0];exact S⟩
  case round =>
    clear S
    obtain⟨k,hk,rfl,S⟩:=hrel
    by_cases hlt:k<32
    · obtain ⟨q, hq⟩ : ∃ q : Nat, q = k / 8 := ⟨_, rfl⟩
      obtain⟨r,hr⟩:∃ r:Nat,r=k%8:=⟨_,rfl⟩
      obtain⟨s,hs⟩:∃ s:Nat,s=8*r:=⟨_,rfl⟩
      have g1:IntKind.i64.wrap ((k:Int) / 8)=(q:Int):=by rw[wrap_small _ (by omega) (by omega)];omega
      have g2:(k:Int).tmod 8=(r:Int):=by rw[Int.tmod_eq_emod_of_nonneg (by omega)];omega
      have g3:IntKind.i64.wrap ((r:Int)*8)=(s:Int):=by rw[wrap_small _ (by omega) (by omega)];omega
      have g4:(q:Int)<4:=by omega
      have g5:(k:Int)<32:=by omega
      have hs64:s≤64:=by omega
      obtain⟨x,hx,hx0,hx1,HX⟩:=wd8_at (A%pr) (ok_mod _) q r s (by omega) (by omega) hs
      have Hx:=hide hx
      have Hk:=hide (show 8*q+r=k by omega)
      have HB:Hid (x / 2 ^ s%256=byt (A%pr) k):=by have:=HX.out;rw[Hk.out] at this;exact this
      clear hx hq hr hs
      go_wp2_with (first|(refine g_load (ty:=24) rfl ?_;refine wl_loadE (ty:=24) (b:=bA) (v:= .int .u64 x) S rfl rfl rfl (by repeat constructor) Hx.out one64 ?_)|(refine g_store (ty:=5) rfl ?_;refine wl_storeE (ty:=5) (b:=b) (cs:=byK (A%pr) (k+1)) S rfl rfl rfl rfl (byK_next (A%pr) k _ HB.out).symm (by repeat(first|exact foc_hd|apply foc_tl)) oneBy (by rw[byK_size];omega) rfl ?_;clear S;intro W S))
      go_roundw
      case rel=>exact⟨k+1,by omega,by go_num,S⟩
      case measure=>simp[intOf];omega
    · have hk' : k = 32 := by omega
      subst hk'
      go_wp2_with (first|(refine g_load (ty:=22) rfl ?_;refine wl_load (ty:=22) S rfl rfl rfl (by repeat constructor) aggBy (by rw[byK_size]) ?_)|(refine g_store (ty:=22) rfl ?_;refine wl_store (ty:=22) S rfl rfl rfl rfl (by repeat(first|exact foc_hd|apply foc_tl)) aggBy (by rw[byK_size]) (by rw[byK_size]) (byK_one _ _) ?_;clear S;intro W S))
      refine Calm.ret_cell S (by rfl) (by rfl) (by repeat constructor) aggBy (by rw[byK_size]) (by rfl) ?_
      exact⟨rfl,S.below⟩
end Go.Proofs.YtdebkddhpogkgaaGreat
