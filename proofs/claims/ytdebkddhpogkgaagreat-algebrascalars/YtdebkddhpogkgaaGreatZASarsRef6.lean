import Derived.Test.YtdebkddhpogkgaaGreatZASarsRefAll
import Derived.Test.YtdebkddhpogkgaaGreatZASarsRead
set_option linter.unusedSimpArgs false
namespace Go.Proofs.YtdebkddhpogkgaaGreat
open Go.RowKit Go.Calm
theorem by4_key (X:Nat) (q r:Nat) (hr:r<4):(X / 4294967296 ^ q%4294967296) / 256 ^ r%256=X / 256 ^ (4*q+r)%256:=by
  have e1:(256:Nat) ^ (4*q+r)=4294967296 ^ q*256 ^ r:=by
    rw[Nat.pow_add,Nat.pow_mul]
  have e2:(4294967296:Nat)=256 ^ r*(256 ^ (3 - r)*256):=by
    rw[← Nat.mul_assoc,← Nat.pow_add,show r+(3 - r)=3 by omega]
  rw[e1,← Nat.div_div_eq_div_mul]
  generalize X / 4294967296 ^ q=y
  have h:=Nat.mod_mul_right_div_self y (256 ^ r) (256 ^ (3 - r)*256)
  rw[← e2] at h
  rw[h,Nat.mod_mul_left_mod]
theorem by4 (n:Int) (hn:0≤n) (q r:Nat) (hr:r<4):nuG n q / 256 ^ r%256=byt n (4*q+r):=by
  obtain⟨X,rfl⟩:=Int.eq_ofNat_of_zero_le hn
  have h:=congrArg (fun n:Nat=>(n:Int)) (by4_key X q r hr)
  unfold nuG byt
  simp only[Int.natCast_emod,Int.natCast_ediv,Int.natCast_pow] at h ⊢
  exact h
set_option maxHeartbeats 1000000 in
theorem RBytes_c (n : Int) (hn : 0 ≤ n) (w : World) : Calls Tryz.prog 80 #[.agg (nuC n)] w fun e w' => e = .returned (.agg (byC n)) ∧ Below w.heap.size w w' := by
  have S:=Calm.St.start w
  go_enter Tryz.func80,Tryz.ntmps80
  go_wp2_with (first|(refine wl_box S rfl rfl rfl ?_;clear S;intro b W S)|(refine wl_new (ty:=22) S rfl rfl zeroBy ?_;clear S;intro b W S))
  rename_i bA _ bR _ K hK
  go_loopw [4] (fun i Wr=>∃ k:Nat,k≤32∧i= .int .i64 (k:Int)∧Calm.St w Wr [⟨b,byK n k,22⟩,⟨bR,byK 0 0,22⟩,⟨bA,nuC n,70⟩]) (fun i _=>32 - (intOf i).toNat)
  case atStart=>exact⟨0,by omega,rfl,by rw[byK_0 n 0];exact S⟩
  case round =>
    clear S
    obtain⟨k,hk,rfl,S⟩:=hrel
    by_cases hlt:k<32
    · obtain ⟨q, hq⟩ : ∃ q : Nat, q = k / 4 := ⟨_, rfl⟩
      obtain⟨r,hr⟩:∃ r:Nat,r=k%4:=⟨_,rfl⟩
      obtain⟨s,hs⟩:∃ s:Nat,s=8*r:=⟨_,rfl⟩
      have g1:IntKind.i64.wrap ((k:Int) / 4)=(q:Int):=by rw[wrap_small _ (by omega) (by omega)];omega
      have g2:(k:Int).tmod 4=(r:Int):=by rw[Int.tmod_eq_emod_of_nonneg (by omega)];omega
      have g3:IntKind.i64.wrap (8*(r:Int))=(s:Int):=by rw[wrap_small _ (by omega) (by omega)];omega
      have g4:(q:Int)<8:=by omega
      have g5:(k:Int)<32:=by omega
      have hs64:s≤64:=by omega
      have Hx:Hid ((nuC n)[q]? =some (.int .u64 (nuG n q))):=nuF_at (nuG n) q (by omega)
      have hxb:=nuG_bd n q
      have HB:Hid (nuG n q / 2 ^ s%256=byt n k):=by
        have h:=by4 n hn q r (by omega)
        rw[show 4*q+r=k by omega,show(256:Int) ^ r=2 ^ s by rw[hs,Int.pow_mul];rfl] at h
        exact h
      have g6:(nuG n q / 2 ^ s).tmod 256=nuG n q / 2 ^ s%256:=Int.tmod_eq_emod_of_nonneg (Int.ediv_nonneg hxb.1 (Int.le_of_lt (Int.pow_pos (by omega))))
      clear hq hr hs
      go_wp2_with (first|(refine g_load (ty:=24) rfl ?_;refine wl_loadE (ty:=24) (b:=bA) S rfl rfl rfl (by repeat constructor) Hx.out one64 ?_)|(refine g_store (ty:=5) rfl ?_;refine wl_storeE (ty:=5) (b:=b) (cs:=byK n (k+1)) S rfl rfl rfl rfl (byK_next n k _ HB.out).symm (by repeat(first|exact foc_hd|apply foc_tl)) oneBy (by rw[byK_size];omega) rfl ?_;clear S;intro W S))
      go_roundw
      case rel=>exact⟨k+1,by omega,by go_num,S⟩
      case measure=>simp[intOf];omega
    · have hk' : k = 32 := by omega
      subst hk'
      go_wp2_with (first|(refine g_load (ty:=22) rfl ?_;refine wl_load (ty:=22) S rfl rfl rfl (by repeat constructor) aggBy (by rw[byK_size]) ?_)|(refine g_store (ty:=22) rfl ?_;refine wl_store (ty:=22) S rfl rfl rfl rfl (by repeat(first|exact foc_hd|apply foc_tl)) aggBy (by rw[byK_size]) (by rw[byK_size]) (byK_one _ _) ?_;clear S;intro W S))
      refine Calm.ret_cell S (by rfl) (by rfl) (by repeat constructor) aggBy (by rw[byK_size]) (by rfl) ?_
      exact⟨rfl,S.below⟩
end Go.Proofs.YtdebkddhpogkgaaGreat
