import Derived.Test.YtdebkddhpogkgaaGreatZASarsArr
import Derived.Test.YtdebkddhpogkgaaGreatZASarsWord
import Derived.LoopTactic
import Derived.LoopN
import Derived.RegionTactic
import Derived.BigRegion
import Derived.Laws.NewBlocks
import Derived.Laws.ResultCell
import Derived.Outline
import Derived.Test.YtdebkddhpogkgaaGreatZASarsSchAll
set_option linter.unusedSimpArgs false
/-! The types of layer 2, and digits of 64 bits against bytes and bits. -/
namespace Go.Arr
open Go.RowKit Go.Calm
theorem hide {p:Prop} (h:p):Hid p:=h
theorem rd_nat (N q r:Nat) (hr:r<8) (MQ:Nat) (hM:MQ=2 ^ (64*q)):
    N%256 ^ (8*q+r)=N%MQ+MQ*(N / MQ%2 ^ (8*r))∧N%256 ^ (8*q+r+1)=N%MQ+MQ*(N / MQ%2 ^ (8*r)+N / 256 ^ (8*q+r)%256*2 ^ (8*r))∧N / MQ%2 ^ (8*r)+N / 256 ^ (8*q+r)%256*2 ^ (8*r)<18446744073709551616:=by
  have e1:(256:Nat) ^ (8*q+r)=MQ*2 ^ (8*r):=by
    rw[hM,show(256:Nat)=2 ^ 8 from rfl,← Nat.pow_mul,← Nat.pow_add];congr 1;omega
  have e2:(256:Nat) ^ (8*q+r+1)=MQ*(2 ^ (8*r)*256):=by rw[Nat.pow_succ,e1,Nat.mul_assoc]
  have e3:N / MQ%(2 ^ (8*r)*256)=N / MQ%2 ^ (8*r)+2 ^ (8*r)*(N / MQ / 2 ^ (8*r)%256):=Nat.mod_mul
  have e4:N / MQ / 2 ^ (8*r)=N / 256 ^ (8*q+r):=by rw[e1,Nat.div_div_eq_div_mul]
  refine⟨by rw[e1];exact Nat.mod_mul,?_,?_⟩
  · rw[e2,Nat.mod_mul,e3,e4,Nat.mul_comm (2 ^ (8*r)) (N / 256 ^ (8*q+r)%256)]
  · have hp : 0 < 2 ^ (8 * r) := Nat.two_pow_pos _
    have h1:N / MQ%2 ^ (8*r)<2 ^ (8*r):=Nat.mod_lt _ hp
    have h2:N / 256 ^ (8*q+r)%256*2 ^ (8*r)≤255*2 ^ (8*r):=Nat.mul_le_mul_right _ (by omega)
    have h3:(2:Nat) ^ (8*r)≤2 ^ 56:=Nat.pow_le_pow_right (by omega) (by omega)
    omega
theorem m_pow (q:Nat):(18446744073709551616:Nat) ^ q=2 ^ (64*q):=by rw[Nat.pow_mul]
theorem rd_step (n:Nat) (N:Int) (hN:0≤N) (k q r s:Nat) (hk:k=8*q+r) (hq:q<n) (hr:r<8) (hs:s=8*r):
    ∃ t z:Int,(arr .u64 n (dig 18446744073709551616 (N%256 ^ k)))[q]? =some (.int .u64 t)∧0≤t∧t<2 ^ s∧0≤z∧z<18446744073709551616∧t+z<18446744073709551616∧Hid (z=dig 256 N k*2 ^ s)∧arr .u64 n (dig 18446744073709551616 (N%256 ^ (k+1)))=(arr .u64 n (dig 18446744073709551616 (N%256 ^ k))).setIfInBounds q (.int .u64 (t+z)):=by
  obtain⟨Y,rfl⟩:=Int.eq_ofNat_of_zero_le hN
  obtain⟨t,ht⟩:∃ t:Nat,t=Y / 18446744073709551616 ^ q%2 ^ (8*r):=⟨_,rfl⟩
  obtain⟨z,hz⟩:∃ z:Nat,z=Y / 256 ^ (8*q+r)%256*2 ^ (8*r):=⟨_,rfl⟩
  obtain⟨f1,f2,f3⟩:=rd_nat Y q r hr (18446744073709551616 ^ q) (m_pow q)
  rw[← ht] at f1 f2 f3
  rw[← hz] at f2 f3
  have ht2:t<2 ^ s:=by rw[ht,hs];exact Nat.mod_lt _ (Nat.two_pow_pos _)
  have c0:((Y%18446744073709551616 ^ q:Nat):Int)<(18446744073709551616:Int) ^ q:=by
    have h:=Int.ofNat_lt.2 (Nat.mod_lt Y (Nat.pow_pos (n:=q) (show 0<18446744073709551616 by omega)))
    rw[Int.natCast_pow] at h;exact h
  have c1:((Y:Int)%256 ^ k)=((Y%18446744073709551616 ^ q:Nat):Int)+18446744073709551616 ^ q*(t:Int):=by
    have h:((Y%256 ^ k:Nat):Int)=((Y%18446744073709551616 ^ q+18446744073709551616 ^ q*t:Nat):Int):=by rw[hk,f1]
    rw[Int.natCast_emod,Int.natCast_pow,Int.natCast_add,Int.natCast_mul,Int.natCast_pow] at h;exact h
  have c2:((Y:Int)%256 ^ (k+1))=((Y%18446744073709551616 ^ q:Nat):Int)+18446744073709551616 ^ q*((t:Int)+z):=by
    have h:((Y%256 ^ (k+1):Nat):Int)=((Y%18446744073709551616 ^ q+18446744073709551616 ^ q*(t+z):Nat):Int):=by rw[hk,f2]
    rw[Int.natCast_emod,Int.natCast_pow,Int.natCast_add,Int.natCast_mul,Int.natCast_pow,Int.natCast_add] at h;exact h
  have c3:(z:Int)=dig 256 (Y:Int) k*2 ^ s:=by
    rw[hz,hk,hs];unfold dig
    rw[Int.natCast_mul,Int.natCast_emod,Int.natCast_ediv,Int.natCast_pow,Int.natCast_pow];rfl
  have c4:(t:Int)<2 ^ s:=by
    have h:=Int.ofNat_lt.2 ht2
    rw[Int.natCast_pow] at h;exact h
  have hM0:(0:Int)<18446744073709551616:=by omega
  have d1:∀ j,dig 18446744073709551616 ((Y:Int)%256 ^ k) j=if j<q then dig 18446744073709551616 ((Y%18446744073709551616 ^ q:Nat):Int) j else if j=q then(t:Int) else 0:=fun j=>by rw[c1];exact dig_top hM0 _ _ q j (by omega) c0 (by omega) (by omega)
  have d2:∀ j,dig 18446744073709551616 ((Y:Int)%256 ^ (k+1)) j=if j<q then dig 18446744073709551616 ((Y%18446744073709551616 ^ q:Nat):Int) j else if j=q then(t:Int)+z else 0:=fun j=>by rw[c2];exact dig_top hM0 _ _ q j (by omega) c0 (by omega) (by omega)
  refine⟨t,z,?_,by omega,c4,by omega,by omega,by omega,c3,?_⟩
  · rw[arr_at _ _ _ q hq,d1 q,if_neg (by omega),if_pos rfl]
  · rw [← arr_set]
    refine arr_ext fun j _=> ?_
    by_cases e:j=q
    · subst e;rw[gset_eq,d2 j,if_neg (by omega),if_pos rfl]
    · rw[gset_ne _ _ _ e,d1 j,d2 j,if_neg e,if_neg e]
theorem or_add (t z d:Int) (s:Nat) (h0:0≤t) (h1:t<2 ^ s) (hd:0≤d) (hz:z=d*2 ^ s) (h2:t+z<18446744073709551616) (hz0:0≤z):bits .or .u64 t z=t+z:=by
  obtain⟨T,rfl⟩:=Int.eq_ofNat_of_zero_le h0
  obtain⟨D,rfl⟩:=Int.eq_ofNat_of_zero_le hd
  have hT:T<2 ^ s:=by
    have h:(T:Int)<((2 ^ s:Nat):Int):=by rw[Int.natCast_pow];exact h1
    exact Int.ofNat_lt.1 h
  have ez:z=((2 ^ s*D:Nat):Int):=by rw[hz,Int.natCast_mul,Int.natCast_pow,Int.mul_comm];rfl
  subst ez
  have h:=bits_or_u64_nat T (2 ^ s*D) (by omega) (by omega)
  rw[Nat.or_comm,← Nat.two_pow_add_eq_or_of_lt hT D] at h
  rw[h];omega
theorem or_bit (d t:Int) (h0:0≤t) (h1:t<2) (hd:0≤d) (h2:d*2<18446744073709551616):bits .or .u64 (d*2) t=d*2+t:=by
  obtain⟨T,rfl⟩:=Int.eq_ofNat_of_zero_le h0
  obtain⟨D,rfl⟩:=Int.eq_ofNat_of_zero_le hd
  have h:=bits_or_u64_nat (2 ^ 1*D) T (by omega) (by omega)
  rw[← Nat.two_pow_add_eq_or_of_lt (show T<2 ^ 1 by omega) D] at h
  have e:((D:Int)*2)=((2 ^ 1*D:Nat):Int):=by omega
  rw[e,h];omega
theorem wd8 (X:Int) (hX:0≤X) (q r s:Nat) (hr:r<8) (hs:s=8*r):dig 18446744073709551616 X q / 2 ^ s%256=dig 256 X (8*q+r):=by
  obtain⟨Y,rfl⟩:=Int.eq_ofNat_of_zero_le hX
  have e1:(256:Nat) ^ (8*q+r)=18446744073709551616 ^ q*2 ^ (8*r):=by
    rw[m_pow,show(256:Nat)=2 ^ 8 from rfl,← Nat.pow_mul,← Nat.pow_add];congr 1;omega
  have e2:(18446744073709551616:Nat)=2 ^ (8*r)*(2 ^ (56 - 8*r)*256):=by
    rw[← Nat.mul_assoc,← Nat.pow_add,show 8*r+(56 - 8*r)=56 by omega]
  have key:Y / 18446744073709551616 ^ q%18446744073709551616 / 2 ^ (8*r)%256=Y / 256 ^ (8*q+r)%256:=by
    rw[e1,← Nat.div_div_eq_div_mul]
    generalize Y / 18446744073709551616 ^ q=y
    rw[e2,Nat.mod_mul_right_div_self,Nat.mod_mul_left_mod]
  have h:=congrArg (fun n:Nat=>(n:Int)) key
  unfold dig
  rw[hs]
  simp only[Int.natCast_emod,Int.natCast_ediv,Int.natCast_pow] at h ⊢
  exact h
theorem wd1 (X:Int) (hX:0≤X) (q r:Nat) (hr:r<64):dig 18446744073709551616 X q / 2 ^ r%2=X / 2 ^ (64*q+r)%2:=by
  obtain⟨Y,rfl⟩:=Int.eq_ofNat_of_zero_le hX
  have e1:(2:Nat) ^ (64*q+r)=18446744073709551616 ^ q*2 ^ r:=by rw[m_pow,← Nat.pow_add]
  have e2:(18446744073709551616:Nat)=2 ^ r*(2 ^ (63 - r)*2):=by
    rw[← Nat.mul_assoc,← Nat.pow_add,← Nat.pow_succ,show(r+(63 - r)).succ=64 by omega]
  have key:Y / 18446744073709551616 ^ q%18446744073709551616 / 2 ^ r%2=Y / 2 ^ (64*q+r)%2:=by
    rw[e1,← Nat.div_div_eq_div_mul]
    generalize Y / 18446744073709551616 ^ q=y
    rw[e2,Nat.mod_mul_right_div_self,Nat.mod_mul_left_mod]
  have h:=congrArg (fun n:Nat=>(n:Int)) key
  unfold dig
  simp only[Int.natCast_emod,Int.natCast_ediv,Int.natCast_pow] at h ⊢
  exact h
theorem arr4 (g:Nat→Int):arr .u64 4 g= #[.int .u64 (g 0),.int .u64 (g 1),.int .u64 (g 2),.int .u64 (g 3)]:=rfl
theorem dig4 (x0 x1 x2 x3 n:Int) (h0:0≤x0) (h0':x0<18446744073709551616) (h1:0≤x1) (h1':x1<18446744073709551616) (h2:0≤x2) (h2':x2<18446744073709551616) (h3:0≤x3) (h3':x3<18446744073709551616) (h:n=x0+18446744073709551616*x1+340282366920938463463374607431768211456*x2+6277101735386680763835789423207666416102355444464034512896*x3):
    arr .u64 4 (dig 18446744073709551616 n)= #[.int .u64 x0,.int .u64 x1,.int .u64 x2,.int .u64 x3]:=by
  rw[arr4]
  unfold dig
  rw[show(18446744073709551616:Int) ^ 0=1 from rfl,show(18446744073709551616:Int) ^ 1=18446744073709551616 from rfl,show(18446744073709551616:Int) ^ 2=340282366920938463463374607431768211456 by decide,show(18446744073709551616:Int) ^ 3=6277101735386680763835789423207666416102355444464034512896 by decide]
  rw[show n / 1%18446744073709551616=x0 by omega,show n / 18446744073709551616%18446744073709551616=x1 by omega,show n / 340282366920938463463374607431768211456%18446744073709551616=x2 by omega,show n / 6277101735386680763835789423207666416102355444464034512896%18446744073709551616=x3 by omega]
theorem words4 (X:Int) (h0:0≤X) (h1:X<115792089237316195423570985008687907853269984665640564039457584007913129639936):∃ x0 x1 x2 x3:Int,arr .u64 4 (dig 18446744073709551616 X)= #[.int .u64 x0,.int .u64 x1,.int .u64 x2,.int .u64 x3]∧0≤x0∧x0<18446744073709551616∧0≤x1∧x1<18446744073709551616∧0≤x2∧x2<18446744073709551616∧0≤x3∧x3<18446744073709551616∧X=x0+18446744073709551616*x1+340282366920938463463374607431768211456*x2+6277101735386680763835789423207666416102355444464034512896*x3:=
  ⟨X%18446744073709551616,X / 18446744073709551616%18446744073709551616,X / 340282366920938463463374607431768211456%18446744073709551616,X / 6277101735386680763835789423207666416102355444464034512896%18446744073709551616,dig4 _ _ _ _ _ (by omega) (by omega) (by omega) (by omega) (by omega) (by omega) (by omega) (by omega) (by omega),by omega,by omega,by omega,by omega,by omega,by omega,by omega,by omega,by omega⟩
theorem m_4:(18446744073709551616:Int) ^ 4=115792089237316195423570985008687907853269984665640564039457584007913129639936:=by decide
theorem m_8:(18446744073709551616:Int) ^ 8=115792089237316195423570985008687907853269984665640564039457584007913129639936*115792089237316195423570985008687907853269984665640564039457584007913129639936:=by decide
theorem b_32:(256:Int) ^ 32=115792089237316195423570985008687907853269984665640564039457584007913129639936:=by decide
theorem M_pos:(0:Int)<18446744073709551616:=by omega
theorem b_pos:(0:Int)<256:=by omega
end Go.Arr
namespace Go.Proofs.YtdebkddhpogkgaaGreat
open Go.RowKit Go.Calm Go.Arr
theorem o64:Calm.OneT Tryz.prog 24:=⟨⟨_,Tryz.underlying24,rfl⟩,by kernel_rfl⟩
theorem oU8:Calm.OneT Tryz.prog 5:=⟨⟨_,Tryz.underlying5,rfl⟩,by kernel_rfl⟩
theorem aggWd:Calm.AggT Tryz.prog 44 4:=⟨⟨_,Tryz.underlying44,rfl⟩,by kernel_rfl⟩
theorem zeroWd:(Tryz.prog.info? 44).bind (·.zero)=some (.agg (arr .u64 4 fun _=>0)):=by kernel_rfl
theorem aggWi:Calm.AggT Tryz.prog 47 8:=⟨⟨_,Tryz.underlying47,rfl⟩,by kernel_rfl⟩
theorem zeroWi:(Tryz.prog.info? 47).bind (·.zero)=some (.agg (arr .u64 8 fun _=>0)):=by kernel_rfl
theorem aggSc:Calm.AggT Tryz.prog 23 32:=⟨⟨_,Tryz.underlying23,rfl⟩,by kernel_rfl⟩
theorem zeroSc:(Tryz.prog.info? 23).bind (·.zero)=some (.agg (arr .u8 32 fun _=>0)):=by kernel_rfl
theorem aggB32:Calm.AggT Tryz.prog 22 32:=⟨⟨_,Tryz.underlying22,rfl⟩,by kernel_rfl⟩
theorem zeroB32:(Tryz.prog.info? 22).bind (·.zero)=some (.agg (arr .u8 32 fun _=>0)):=by kernel_rfl
theorem arrSc:Calm.ArrT Tryz.prog 23 32 .u8:=⟨⟨_,Tryz.underlying23,Tryz.underlying5,by kernel_rfl⟩,by kernel_rfl⟩
def el:Int:=7237005577332262213973186563042994240857116359379907606001950938285454250989
def Ok8 (n:Int):Prop:=0≤n∧n<115792089237316195423570985008687907853269984665640564039457584007913129639936
theorem ok8_mod (n:Int):Ok8 (n%el):=by unfold Ok8 el;omega
theorem dig_0 (B:Int) (n:Nat) (k:IntKind):arr k n (dig B 0)=arr k n fun _=>0:=arr_ext fun j _=>by unfold dig;simp
end Go.Proofs.YtdebkddhpogkgaaGreat

set_option linter.unusedSimpArgs false
namespace Go.Proofs.YtdebkddhpogkgaaGreat
open Go.RowKit Go.Calm Go.Arr
theorem sumE (x y c:Int) (hx:0≤x) (hx':x<18446744073709551616) (hy:0≤y) (hy':y<18446744073709551616) (hc0:0≤c) (hc:c≤1):∃ s o:Int,(∀ w,(callFunc 49 #[.int .u64 x,.int .u64 y,.int .u64 c]).run Tryz.prog w= .ok (.value (.tuple #[.int .u64 s,.int .u64 o])) w)∧0≤s∧s<18446744073709551616∧0≤o∧o≤1∧Hid (s+18446744073709551616*o=x+y+c):=
  ⟨_,_,add64 x y c hx hy hc0 hc,by omega,by omega,by omega,by omega,by unfold Hid;omega⟩
theorem difE (x y b:Int) (hx:0≤x) (hx':x<18446744073709551616) (hy:0≤y) (hy':y<18446744073709551616) (hb0:0≤b) (hb:b≤1):∃ s o:Int,(∀ w,(callFunc 50 #[.int .u64 x,.int .u64 y,.int .u64 b]).run Tryz.prog w= .ok (.value (.tuple #[.int .u64 s,.int .u64 o])) w)∧0≤s∧s<18446744073709551616∧0≤o∧o≤1∧Hid (s - 18446744073709551616*o=x - y - b):=
  ⟨_,_,sub64 x y b hx hy hy' hb0 hb,by omega,by omega,(bor_bd _ _).1,(bor_bd _ _).2,by unfold Hid bor;split<;>omega⟩
def sumG (g:Nat→Int) (c:Int) (k:Nat) (j:Nat):Int:=if j<k then g j else if j=4 then c else 0
theorem sumG_4 (g:Nat→Int) (c:Int) (k:Nat) (hk:k<4):(arr .u64 8 (sumG g c k))[4]? =some (.int .u64 c):=by
  rw[arr_at _ _ _ 4 (by omega)];simp[sumG];omega
theorem sumG_set (g:Nat→Int) (c s o:Int) (k:Nat) (hk:k<4):arr .u64 8 (sumG (gset g k s) o (k+1))=((arr .u64 8 (sumG g c k)).setIfInBounds k (.int .u64 s)).setIfInBounds 4 (.int .u64 o):=by
  rw[← arr_set,← arr_set]
  refine arr_ext fun j _=> ?_
  by_cases e4:j=4
  · subst e4;rw[gset_eq];unfold sumG;rw[if_neg (by omega),if_pos rfl]
  · rw [gset_ne _ _ _ e4]
    by_cases e:j=k
    · subst e;rw[gset_eq];unfold sumG;rw[if_pos (by omega),gset_eq]
    · rw [gset_ne _ _ _ e]
      unfold sumG
      rw[if_neg e4,if_neg e4]
      by_cases h:j<k
      · rw[if_pos h,if_pos (by omega),gset_ne _ _ _ e]
      · rw[if_neg h,if_neg (by omega)]
theorem sumG_end (A B:Int) (g:Nat→Int) (c:Int) (hA:Ok8 A) (hB:Ok8 B) (H:Cy 18446744073709551616 (dig 18446744073709551616 A) (dig 18446744073709551616 B) g c 4):arr .u64 8 (sumG g c 4)=arr .u64 8 (dig 18446744073709551616 (A+B)):=by
  have h0:=H.c0
  have h1:=H.c1
  have hb:∀ j,j<8→0≤sumG g c 4 j∧sumG g c 4 j<18446744073709551616:=by
    intro j _
    unfold sumG
    split
    · exact H.lo j (by omega)
    · split<;>omega
  rw[arr_num M_pos .u64 8 _ hb]
  have he:=H.eq
  rw[dig_v M_pos A 4 hA.1 (by rw[m_4];exact hA.2),dig_v M_pos B 4 hB.1 (by rw[m_4];exact hB.2)] at he
  have e2:vB 18446744073709551616 (sumG g c 4) 8=vB 18446744073709551616 g 4+c*18446744073709551616 ^ 4:=by
    rw[show(8:Nat)=4+4 from rfl,vB_split]
    rw[vB_ext (h:=g) 4 (fun j hj=>by unfold sumG;rw[if_pos hj])]
    rw[show vB 18446744073709551616 (fun j=>sumG g c 4 (j+4)) 4=c by simp[vB,sumG]]
    omega
  rw[e2,he]
set_option maxHeartbeats 1000000 in
theorem sum_c (A B:Int) (hA:Ok8 A) (hB:Ok8 B) (w:World):Calls Tryz.prog 34 #[.agg (arr .u64 4 (dig 18446744073709551616 A)),.agg (arr .u64 4 (dig 18446744073709551616 B))] w fun e w'=>e= .returned (.agg (arr .u64 8 (dig 18446744073709551616 (A+B))))∧Below w.heap.size w w':=by
  have S:=Calm.St.start w
  go_enter Tryz.func34,Tryz.ntmps34
  go_wp2_with (first|(refine wl_box S rfl rfl rfl ?_;clear S;intro b W S)|(refine wl_new (ty:=47) S rfl rfl zeroWi ?_;clear S;intro b W S))
  rename_i bA _ bB _ bR _ K hK
  go_loopw [7] (fun i Wr=>∃(k:Nat) (g:Nat→Int) (c:Int),k≤4∧i= .int .i64 k∧Cy 18446744073709551616 (dig 18446744073709551616 A) (dig 18446744073709551616 B) g c k∧Calm.St w Wr [⟨b,arr .u64 8 (sumG g c k),47⟩,⟨bR,arr .u64 8 (fun _=>0),47⟩,⟨bB,arr .u64 4 (dig 18446744073709551616 B),44⟩,⟨bA,arr .u64 4 (dig 18446744073709551616 A),44⟩]) (fun i _=>4 - (intOf i).toNat)
  case atStart=>exact⟨0,fun _=>0,0,by omega,rfl,⟨fun j h=>by omega,by omega,by omega,by simp[vB]⟩,by rw[show arr .u64 8 (sumG (fun _=>0) 0 0)=arr .u64 8 (fun _=>0) from arr_ext fun j _=>by simp[sumG]];exact S⟩
  case round =>
    clear S
    obtain⟨k,g,c,hk,rfl,hC,S⟩:=hrel
    by_cases hlt:k<4
    · have g5 : (k : Int) < 4 := by omega
      have g6:(k:Int)<8:=by omega
      have ba:=dig_bd M_pos A k
      have bb:=dig_bd M_pos B k
      obtain⟨s,o,hs,s0,s1,o0,o1,HS⟩:=sumE (dig 18446744073709551616 A k) (dig 18446744073709551616 B k) c ba.1 ba.2 bb.1 bb.2 hC.c0 hC.c1
      have Hs:=hide hs
      have Ha:=hide (arr_at .u64 4 (dig 18446744073709551616 A) k hlt)
      have Hb:=hide (arr_at .u64 4 (dig 18446744073709551616 B) k hlt)
      have H4:=hide (sumG_4 g c k hlt)
      have Hst:=hide (sumG_set g c s o k hlt)
      clear hs
      go_wp2_with fail
      refine Calm.region_sched S [(0,true),(1,true),(2,true),(3,true),(4,true),(5,true),(6,true),(7,true),(8,false),(9,true),(10,true),(11,true),(12,true),(13,true),(14,false),(15,true),(16,false)] [⟨bB,arr .u64 4 (dig 18446744073709551616 B),44⟩,⟨bA,arr .u64 4 (dig 18446744073709551616 A),44⟩] (by kernel_rfl) (by kernel_rfl) (by simp) (by intro c a d v w h;cases d<;>exact h) (fun S=> ?_)
      iterate 3 (apply wh_val rfl (by rfl);(intro w;go_simp;rfl);simp only[List.getElem_toArray,List.getElem_cons_succ,List.getElem_cons_zero,Act.put,Act.eval,zQ])
      (refine wh_loadE (ty:=24) (b:=bA) (v:= .int .u64 (dig 18446744073709551616 A k)) rfl (by rfl) rfl rfl (by repeat constructor) Ha.out o64 ?_;simp only[List.getElem_toArray,List.getElem_cons_succ,List.getElem_cons_zero,Act.put,Act.eval,zQ])
      iterate 2 (apply wh_val rfl (by rfl);(intro w;go_simp;rfl);simp only[List.getElem_toArray,List.getElem_cons_succ,List.getElem_cons_zero,Act.put,Act.eval,zQ])
      (refine wh_loadE (ty:=24) (b:=bB) (v:= .int .u64 (dig 18446744073709551616 B k)) rfl (by rfl) rfl rfl (by repeat constructor) Hb.out o64 ?_;simp only[List.getElem_toArray,List.getElem_cons_succ,List.getElem_cons_zero,Act.put,Act.eval,zQ])
      (apply wh_val rfl (by rfl);(intro w;go_simp;rfl);simp only[List.getElem_toArray,List.getElem_cons_succ,List.getElem_cons_zero,Act.put,Act.eval,zQ])
      (refine Calm.whB_loadE (ty:=24) (b:=b) (v:= .int .u64 c) S (by simp) rfl (by rfl) rfl rfl (by repeat constructor) H4.out o64 ?_;simp only[List.getElem_toArray,List.getElem_cons_succ,List.getElem_cons_zero,Act.put,Act.eval,zQ])
      (apply wh_val rfl (by rfl);(intro w;go_simp;exact Hs.out w);simp only[List.getElem_toArray,List.getElem_cons_succ,List.getElem_cons_zero,Act.put,Act.eval,zQ])
      iterate 4 (apply wh_val rfl (by rfl);(intro w;go_simp;rfl);simp only[List.getElem_toArray,List.getElem_cons_succ,List.getElem_cons_zero,Act.put,Act.eval,zQ])
      (refine Calm.whB_storeE (ty:=24) (b:=b) (cs:=(arr .u64 8 (sumG g c k)).setIfInBounds k (.int .u64 s)) S rfl (by rfl) rfl rfl rfl (rfl) (by repeat(first|exact foc_hd|apply foc_tl)) o64 (by(rw[Go.Arr.arr_size];omega)) rfl (by simp) ?_;clear S;intro W S;simp only[List.getElem_toArray,List.getElem_cons_succ,List.getElem_cons_zero,Act.put,Act.eval,zQ])
      (apply wh_val rfl (by rfl);(intro w;go_simp;rfl);simp only[List.getElem_toArray,List.getElem_cons_succ,List.getElem_cons_zero,Act.put,Act.eval,zQ])
      (refine Calm.whB_storeE (ty:=24) (b:=b) (cs:=arr .u64 8 (sumG (gset g k s) o (k+1))) S rfl (by rfl) rfl rfl rfl (Hst.out) (by repeat(first|exact foc_hd|apply foc_tl)) o64 (by(simp only[Array.size_setIfInBounds,Go.Arr.arr_size];omega)) rfl (by simp) ?_;clear S;intro W S;simp only[List.getElem_toArray,List.getElem_cons_succ,List.getElem_cons_zero,Act.put,Act.eval,zQ])
      refine wh_nil ?_
      go_wp2_with fail
      go_roundw
      case rel=>exact⟨k+1,_,_,by omega,by go_num,hC.step s0 s1 o0 o1 HS.out,S⟩
      case measure=>simp[intOf];omega
    · have hk' : k = 4 := by omega
      subst hk'
      rw[sumG_end A B g c hA hB hC] at S
      go_wp2_with (first|(refine g_load (ty:=47) rfl ?_;refine wl_load (ty:=47) S rfl rfl rfl (by repeat constructor) aggWi (by first|exact(Go.Arr.arr_size _ _ _).symm|rfl) ?_)|(refine g_store (ty:=47) rfl ?_;refine wl_store (ty:=47) S rfl rfl rfl rfl (by repeat(first|exact foc_hd|apply foc_tl)) aggWi (by first|exact(Go.Arr.arr_size _ _ _).symm|rfl) (by first|exact(Go.Arr.arr_size _ _ _).symm|rfl) (by first|exact Go.Arr.arr_one _ _ _|rfl|simp[Value.oneCell']) ?_;clear S;intro W S))
      refine Calm.ret_cell S (by rfl) (by rfl) (by repeat constructor) aggWi (arr_size _ _ _).symm (by rfl) ?_
      exact⟨rfl,S.below⟩
end Go.Proofs.YtdebkddhpogkgaaGreat

set_option linter.unusedSimpArgs false
namespace Go.Proofs.YtdebkddhpogkgaaGreat
open Go.RowKit Go.Calm Go.Arr
def offL (n:Int):Int:=if n<el then n else n - el
set_option maxHeartbeats 1000000 in
theorem takeOff_c (x0 x1 x2 x3:Int) (h0:0≤x0) (h0':x0<18446744073709551616) (h1:0≤x1) (h1':x1<18446744073709551616) (h2:0≤x2) (h2':x2<18446744073709551616) (h3:0≤x3) (h3':x3<18446744073709551616) (w0 w:World) (b:Nat) (L:List Calm.Blk) (S:Calm.St w0 w (⟨b, #[.int .u64 x0,.int .u64 x1,.int .u64 x2,.int .u64 x3],44⟩ :: L)):
    Calls Tryz.prog 48 #[.pointer (some ⟨b,0,none⟩)] w fun e w'=>e= .returned (.tuple #[])∧Calm.St w0 w' (⟨b,arr .u64 4 (dig 18446744073709551616 (offL (x0+18446744073709551616*x1+340282366920938463463374607431768211456*x2+6277101735386680763835789423207666416102355444464034512896*x3))),44⟩ :: L):=by
  obtain⟨s0,o0,k0,p0,q0,r0,t0,H0⟩:=difE x0 6346243789798364141 0 h0 h0' (by omega) (by omega) (by omega) (by omega)
  obtain⟨s1,o1,k1,p1,q1,r1,t1,H1⟩:=difE x1 1503914060200516822 o0 h1 h1' (by omega) (by omega) r0 t0
  obtain⟨s2,o2,k2,p2,q2,r2,t2,H2⟩:=difE x2 0 o1 h2 h2' (by omega) (by omega) r1 t1
  obtain⟨s3,o3,k3,p3,q3,r3,t3,H3⟩:=difE x3 1152921504606846976 o2 h3 h3' (by omega) (by omega) r2 t2
  have hd:(s0+18446744073709551616*s1+340282366920938463463374607431768211456*s2+6277101735386680763835789423207666416102355444464034512896*s3) - 115792089237316195423570985008687907853269984665640564039457584007913129639936*o3=(x0+18446744073709551616*x1+340282366920938463463374607431768211456*x2+6277101735386680763835789423207666416102355444464034512896*x3) - el:=by
    have:=H0.out;have:=H1.out;have:=H2.out;have:=H3.out;unfold el;omega
  by_cases ho:o3=0
  · subst ho
    have hge:¬(x0+18446744073709551616*x1+340282366920938463463374607431768211456*x2+6277101735386680763835789423207666416102355444464034512896*x3)<el:=by omega
    have HF:Hid (arr .u64 4 (dig 18446744073709551616 (offL (x0+18446744073709551616*x1+340282366920938463463374607431768211456*x2+6277101735386680763835789423207666416102355444464034512896*x3)))= #[.int .u64 s0,.int .u64 s1,.int .u64 s2,.int .u64 s3]):=by
      unfold offL
      rw[if_neg hge]
      exact dig4 s0 s1 s2 s3 _ p0 q0 p1 q1 p2 q2 p3 q3 (by omega)
    clear hd hge
    go_enter Tryz.func48,Tryz.ntmps48
    go_wp2_with (first|(refine g_store (ty:=44) rfl ?_;refine wl_store (ty:=44) S rfl rfl rfl rfl (by repeat(first|exact foc_hd|apply foc_tl)) aggWd (by first|exact(Go.Arr.arr_size _ _ _).symm|rfl) (by first|exact(Go.Arr.arr_size _ _ _).symm|rfl) (by first|exact Go.Arr.arr_one _ _ _|rfl|simp[Value.oneCell']) ?_;clear S;intro W S)|(refine g_load (ty:=24) rfl ?_;refine wl_loadE (ty:=24) S rfl rfl rfl (by repeat constructor) (by rfl) o64 ?_)|simp only[k0])
    refine bodyPost_end (v:= .tuple #[]) (by simp[results,Tryz.results48,go_sem]) rfl ?_
    exact⟨rfl,by rw[HF.out];exact S⟩
  · have ho1 : o3 = 1 := by omega
    subst ho1
    have hlt:(x0+18446744073709551616*x1+340282366920938463463374607431768211456*x2+6277101735386680763835789423207666416102355444464034512896*x3)<el:=by omega
    have HF:Hid (arr .u64 4 (dig 18446744073709551616 (offL (x0+18446744073709551616*x1+340282366920938463463374607431768211456*x2+6277101735386680763835789423207666416102355444464034512896*x3)))= #[.int .u64 x0,.int .u64 x1,.int .u64 x2,.int .u64 x3]):=by
      unfold offL
      rw[if_pos hlt]
      exact dig4 x0 x1 x2 x3 _ h0 h0' h1 h1' h2 h2' h3 h3' rfl
    clear hd hlt
    go_enter Tryz.func48,Tryz.ntmps48
    go_wp2_with (first|(refine g_load (ty:=24) rfl ?_;refine wl_loadE (ty:=24) S rfl rfl rfl (by repeat constructor) (by rfl) o64 ?_)|simp only[k0])
    refine bodyPost_end (v:= .tuple #[]) (by simp[results,Tryz.results48,go_sem]) rfl ?_
    exact⟨rfl,by rw[HF.out];exact S⟩
end Go.Proofs.YtdebkddhpogkgaaGreat

set_option linter.unusedSimpArgs false
namespace Go.Proofs.YtdebkddhpogkgaaGreat
open Go.RowKit Go.Calm Go.Arr
set_option maxHeartbeats 1000000 in
theorem read_c (N:Int) (hN:Ok8 N) (w:World):Calls Tryz.prog 35 #[.agg (arr .u8 32 (dig 256 N))] w fun e w'=>e= .returned (.agg (arr .u64 4 (dig 18446744073709551616 N)))∧Below w.heap.size w w':=by
  have S:=Calm.St.start w
  go_enter Tryz.func35,Tryz.ntmps35
  go_wp2_with (first|(refine wl_box S rfl rfl rfl ?_;clear S;intro b W S)|(refine wl_new (ty:=44) S rfl rfl zeroWd ?_;clear S;intro b W S))
  rename_i bB _ bR _ K hK
  go_loopw [5] (fun i Wr=>∃ k:Nat,k≤32∧i= .int .i64 k∧Calm.St w Wr [⟨b,arr .u64 4 (dig 18446744073709551616 (N%256 ^ k)),44⟩,⟨bR,arr .u64 4 (fun _=>0),44⟩,⟨bB,arr .u8 32 (dig 256 N),23⟩]) (fun i _=>32 - (intOf i).toNat)
  case atStart=>exact⟨0,by omega,rfl,by rw[show N%256 ^ 0=0 from by simp,dig_0];exact S⟩
  case round =>
    clear S
    obtain⟨k,hk,rfl,S⟩:=hrel
    by_cases hlt:k<32
    · obtain ⟨q, hq⟩ : ∃ q : Nat, q = k / 8 := ⟨_, rfl⟩
      obtain⟨r,hr⟩:∃ r:Nat,r=k%8:=⟨_,rfl⟩
      obtain⟨s,hs⟩:∃ s:Nat,s=8*r:=⟨_,rfl⟩
      have g1:IntKind.i64.wrap ((k:Int) / 8)=(q:Int):=by rw[wrap_small _ (by omega) (by omega)];omega
      have g2:(k:Int).tmod 8=(r:Int):=by rw[Int.tmod_eq_emod_of_nonneg (by omega)];omega
      have g3:IntKind.i64.wrap ((r:Int)*8)=(s:Int):=by rw[wrap_small _ (by omega) (by omega)];omega
      have g4:(q:Int)<4:=by omega
      have g5:(k:Int)<32:=by omega
      have hs64:s≤64:=by omega
      obtain⟨t,z,hx,t0,t1,z0,z1,z2,HZ,hn⟩:=rd_step 4 N hN.1 k q r s (by omega) (by omega) (by omega) hs
      obtain⟨d0,d1⟩:=dig_bd b_pos N k
      have Hx:=hide hx
      have Hn:=hide hn
      have Hb:=hide (arr_at .u8 32 (dig 256 N) k hlt)
      have g0:IntKind.u64.wrap (dig 256 N k)=dig 256 N k:=by rw[IntKind.wrap_u64];omega
      have g6:IntKind.u64.wrap (dig 256 N k*2 ^ s)=z:=by rw[IntKind.wrap_u64,← HZ.out];omega
      have g7:=or_add t z (dig 256 N k) s t0 t1 d0 HZ.out z2 z0
      have hq4:q<4:=by omega
      clear hx hn hq hr hs t1
      go_wp2_with fail
      refine Calm.region0 S 14 (by kernel_rfl) (by kernel_rfl) (fun S=> ?_)
      iterate 3 (first|(refine wn_move rfl (by rfl) (Or.inl rfl) ?_;simp only[Act.put,Act.eval,zQ])|(apply wn_val rfl (by rfl);(intro w;go_simp;rfl);simp only[Act.put,Act.eval,zQ]))
      (refine Calm.gn_load (ty:=24) rfl ?_;refine wn_loadE (ty:=24) (b:=b) (v:= .int .u64 t) S rfl (by rfl) rfl rfl (by repeat constructor) Hx.out o64 ?_;simp only[Act.put,Act.eval,zQ])
      iterate 2 (first|(refine wn_move rfl (by rfl) (Or.inl rfl) ?_;simp only[Act.put,Act.eval,zQ])|(apply wn_val rfl (by rfl);(intro w;go_simp;rfl);simp only[Act.put,Act.eval,zQ]))
      (refine Calm.gn_load (ty:=5) rfl ?_;refine wn_loadE (ty:=5) (b:=bB) (v:= .int .u8 (dig 256 N k)) S rfl (by rfl) rfl rfl (by repeat constructor) Hb.out oU8 ?_;simp only[Act.put,Act.eval,zQ])
      repeat(first|(refine wn_move rfl (by rfl) (Or.inl rfl) ?_;simp only[Act.put,Act.eval,zQ])|(apply wn_val rfl (by rfl);(intro w;go_simp;rfl);simp only[Act.put,Act.eval,zQ]))
      (refine wn_nil ?_;clear S;intro W S;simp only[Act.put,List.setIfInBounds_toArray,List.set_cons_zero,List.set_cons_succ,List.drop_succ_cons,List.drop_zero,List.drop_nil])
      refine wl_storeE (ty:=24) (b:=b) (cs:=arr .u64 4 (dig 18446744073709551616 (N%256 ^ (k+1)))) S rfl rfl rfl rfl Hn.out (by repeat(first|exact foc_hd|apply foc_tl)) o64 (by rw[arr_size];omega) rfl ?_
      clear S
      intro W S
      go_wp2_with fail
      go_roundw
      case rel=>exact⟨k+1,by omega,by go_num,S⟩
      case measure=>simp[intOf];omega
    · have hk' : k = 32 := by omega
      subst hk'
      rw[show N%256 ^ 32=N from Int.emod_eq_of_lt hN.1 hN.2] at S
      go_wp2_with (first|(refine g_load (ty:=44) rfl ?_;refine wl_load (ty:=44) S rfl rfl rfl (by repeat constructor) aggWd (by first|exact(Go.Arr.arr_size _ _ _).symm|rfl) ?_)|(refine g_store (ty:=44) rfl ?_;refine wl_store (ty:=44) S rfl rfl rfl rfl (by repeat(first|exact foc_hd|apply foc_tl)) aggWd (by first|exact(Go.Arr.arr_size _ _ _).symm|rfl) (by first|exact(Go.Arr.arr_size _ _ _).symm|rfl) (by first|exact Go.Arr.arr_one _ _ _|rfl|simp[Value.oneCell']) ?_;clear S;intro W S))
      refine Calm.ret_cell S (by rfl) (by rfl) (by repeat constructor) aggWd (arr_size _ _ _).symm (by rfl) ?_
      exact⟨rfl,S.below⟩
def firstK (n:Int) (k:Nat) (j:Nat):Int:=if j<k then dig 256 n j else 0
theorem firstK_0 (n:Int) (m:Nat):arr .u8 m (firstK n 0)=arr .u8 m fun _=>0:=arr_ext fun j _=>by simp[firstK]
theorem firstK_n (n:Int) (m:Nat):arr .u8 m (firstK n m)=arr .u8 m (dig 256 n):=arr_ext fun j hj=>by simp[firstK,hj]
theorem firstK_next (n:Int) (m k:Nat) (v:Int) (hv:v=dig 256 n k):arr .u8 m (firstK n (k+1))=(arr .u8 m (firstK n k)).setIfInBounds k (.int .u8 v):=by
  rw[← arr_set]
  refine arr_ext fun j _=> ?_
  by_cases e:j=k
  · subst e;rw[gset_eq,hv];simp[firstK]
  · rw [gset_ne _ _ _ e]
    unfold firstK
    by_cases h:j<k
    · rw[if_pos h,if_pos (by omega)]
    · rw[if_neg h,if_neg (by omega)]
set_option maxHeartbeats 1000000 in
theorem write_c (A:Int) (hA:Ok8 A) (w:World):Calls Tryz.prog 32 #[.agg (arr .u64 4 (dig 18446744073709551616 A))] w fun e w'=>e= .returned (.agg (arr .u8 32 (dig 256 A)))∧Below w.heap.size w w':=by
  have S:=Calm.St.start w
  go_enter Tryz.func32,Tryz.ntmps32
  go_wp2_with (first|(refine wl_box S rfl rfl rfl ?_;clear S;intro b W S)|(refine wl_new (ty:=23) S rfl rfl zeroSc ?_;clear S;intro b W S))
  rename_i bA _ bR _ K hK
  go_loopw [5] (fun i Wr=>∃ k:Nat,k≤32∧i= .int .i64 k∧Calm.St w Wr [⟨b,arr .u8 32 (firstK A k),23⟩,⟨bR,arr .u8 32 (fun _=>0),23⟩,⟨bA,arr .u64 4 (dig 18446744073709551616 A),44⟩]) (fun i _=>32 - (intOf i).toNat)
  case atStart=>exact⟨0,by omega,rfl,by rw[firstK_0];exact S⟩
  case round =>
    clear S
    obtain⟨k,hk,rfl,S⟩:=hrel
    by_cases hlt:k<32
    · obtain ⟨q, hq⟩ : ∃ q : Nat, q = k / 8 := ⟨_, rfl⟩
      obtain⟨r,hr⟩:∃ r:Nat,r=k%8:=⟨_,rfl⟩
      obtain⟨s,hs⟩:∃ s:Nat,s=8*r:=⟨_,rfl⟩
      have g1:IntKind.i64.wrap ((k:Int) / 8)=(q:Int):=by rw[wrap_small _ (by omega) (by omega)];omega
      have g2:(k:Int).tmod 8=(r:Int):=by rw[Int.tmod_eq_emod_of_nonneg (by omega)];omega
      have g3:IntKind.i64.wrap ((r:Int)*8)=(s:Int):=by rw[wrap_small _ (by omega) (by omega)];omega
      have g4:(q:Int)<4:=by omega
      have g5:(k:Int)<32:=by omega
      have hs64:s≤64:=by omega
      obtain⟨x,hx⟩:∃ x:Int,x=dig 18446744073709551616 A q:=⟨_,rfl⟩
      have Hx:Hid ((arr .u64 4 (dig 18446744073709551616 A))[q]? =some (.int .u64 x)):=by rw[hx];exact arr_at _ _ _ q (by omega)
      have hxb:=dig_bd M_pos A q
      rw[← hx] at hxb
      have HB:Hid (x / 2 ^ s%256=dig 256 A k):=by unfold Hid;rw[hx,wd8 A hA.1 q r s (by omega) hs,show 8*q+r=k by omega]
      clear hx hq hr hs
      go_wp2_with (first|(refine g_load (ty:=24) rfl ?_;refine wl_loadE (ty:=24) (b:=bA) (v:= .int .u64 x) S rfl rfl rfl (by repeat constructor) Hx.out o64 ?_)|(refine g_store (ty:=5) rfl ?_;refine wl_storeE (ty:=5) (b:=b) (cs:=arr .u8 32 (firstK A (k+1))) S rfl rfl rfl rfl (firstK_next A 32 k _ HB.out) (by repeat(first|exact foc_hd|apply foc_tl)) oU8 (by rw[Go.Arr.arr_size];omega) rfl ?_;clear S;intro W S))
      go_roundw
      case rel=>exact⟨k+1,by omega,by go_num,S⟩
      case measure=>simp[intOf];omega
    · have hk' : k = 32 := by omega
      subst hk'
      rw[firstK_n] at S
      go_wp2_with (first|(refine g_load (ty:=23) rfl ?_;refine wl_load (ty:=23) S rfl rfl rfl (by repeat constructor) aggSc (by first|exact(Go.Arr.arr_size _ _ _).symm|rfl) ?_)|(refine g_store (ty:=23) rfl ?_;refine wl_store (ty:=23) S rfl rfl rfl rfl (by repeat(first|exact foc_hd|apply foc_tl)) aggSc (by first|exact(Go.Arr.arr_size _ _ _).symm|rfl) (by first|exact(Go.Arr.arr_size _ _ _).symm|rfl) (by first|exact Go.Arr.arr_one _ _ _|rfl|simp[Value.oneCell']) ?_;clear S;intro W S))
      refine Calm.ret_cell S (by rfl) (by rfl) (by repeat constructor) aggSc (arr_size _ _ _).symm (by rfl) ?_
      exact⟨rfl,S.below⟩
end Go.Proofs.YtdebkddhpogkgaaGreat

set_option linter.unusedSimpArgs false
namespace Go.Proofs.YtdebkddhpogkgaaGreat
open Go.RowKit Go.Calm Go.Arr
theorem mulE (x y:Int) (hx:0≤x) (hx':x<18446744073709551616) (hy:0≤y) (hy':y<18446744073709551616):∃ hi lo:Int,(∀ w,Calls Tryz.prog 51 #[.int .u64 x,.int .u64 y] w fun e w'=>e= .returned (.tuple #[.int .u64 hi,.int .u64 lo])∧Below w.heap.size w w')∧0≤hi∧hi<18446744073709551615∧0≤lo∧lo<18446744073709551616∧Hid (lo+18446744073709551616*hi=x*y):=by
  have hm:x*y≤18446744073709551615*18446744073709551615:=Int.mul_le_mul (by omega) (by omega) (by omega) (by omega)
  have hm0:0≤x*y:=Int.mul_nonneg hx hy
  refine⟨x*y / 18446744073709551616,x*y%18446744073709551616,fun w=> ?_,by omega,by omega,by omega,by omega,by unfold Hid;omega⟩
  refine(mul64 x y hx hx' hy hy' w).mono ?_
  rintro e w' ⟨hi,lo,rfl,rfl,h1,h2,h3,h4,H⟩
  have:=H.out
  generalize x*y=z at*
  exact⟨by rw[show lo=z%18446744073709551616 from by omega,show hi=z / 18446744073709551616 from by omega],Below.refl _ _⟩
theorem prod_end (A B:Int) (h:Nat→Int) (hA:Ok8 A) (hB:Ok8 B) (hh:∀ j,0≤h j∧h j<18446744073709551616) (hv:vB 18446744073709551616 h 8=vB 18446744073709551616 (dig 18446744073709551616 A) 4*vB 18446744073709551616 (dig 18446744073709551616 B) 4):arr .u64 8 h=arr .u64 8 (dig 18446744073709551616 (A*B)):=by
  rw[arr_num M_pos .u64 8 h (fun j _=>hh j),hv,dig_v M_pos A 4 hA.1 (by rw[m_4];exact hA.2),dig_v M_pos B 4 hB.1 (by rw[m_4];exact hB.2)]
theorem row_sum (hi lo n a x s1 o1 s2 o2:Int) (h:lo+18446744073709551616*hi=x) (h1:s1+18446744073709551616*o1=lo+n+0) (h2:s2+18446744073709551616*o2=s1+a+0):s2+18446744073709551616*(hi+o1+o2)=a+n+x:=by omega
set_option maxHeartbeats 2000000 in
theorem product_c (A B : Int) (hA : Ok8 A) (hB : Ok8 B) (w : World) : Calls Tryz.prog 37 #[.agg (arr .u64 4 (dig 18446744073709551616 A)), .agg (arr .u64 4 (dig 18446744073709551616 B))] w fun e w' => e = .returned (.agg (arr .u64 8 (dig 18446744073709551616 (A * B)))) ∧ Below w.heap.size w w' := by
  have S:=Calm.St.start w
  go_enter Tryz.func37,Tryz.ntmps37
  go_wp2_with (first|(refine wl_box S rfl rfl rfl ?_;clear S;intro b W S)|(refine wl_new (ty:=47) S rfl rfl zeroWi ?_;clear S;intro b W S))
  rename_i bA _ bB _ bR _ K hK
  go_loopw [12] (fun ii Wr=>∃(i:Nat) (h:Nat→Int),i≤4∧ii= .int .i64 (i:Int)∧(∀ j,0≤h j∧h j<18446744073709551616)∧(∀ j,i+4≤j→h j=0)∧vB 18446744073709551616 h 8=vB 18446744073709551616 (dig 18446744073709551616 A) i*vB 18446744073709551616 (dig 18446744073709551616 B) 4∧Calm.St w Wr [⟨b,arr .u64 8 h,47⟩,⟨bR,arr .u64 8 (fun _=>0),47⟩,⟨bB,arr .u64 4 (dig 18446744073709551616 B),44⟩,⟨bA,arr .u64 4 (dig 18446744073709551616 A),44⟩]) (fun ii _=>4 - (intOf ii).toNat)
  case atStart=>exact⟨0,_,by omega,rfl,fun j=>by omega,fun _ _=>rfl,by rw[vB_zero];simp[vB],S⟩
  case round =>
    clear S
    obtain⟨i,h,hi,rfl,hh,hz,hv,S⟩:=hrel
    by_cases hlt:i<4
    · have hlt' : (i : Int) < 4 := by omega
      have HZ:=hide hz
      have HV:=hide hv
      have HH:=hide hh
      clear hz hv hh
      go_wp2_with fail
      rename_i K2 hK2
      go_loopw [15,7] (fun kk cc Wr=>∃(k:Nat) (g:Nat→Int) (c:Int),k≤4∧kk= .int .i64 (k:Int)∧cc= .int .u64 c∧Row 18446744073709551616 4 8 (dig 18446744073709551616 A) (dig 18446744073709551616 B) h g i c k∧Calm.St w Wr [⟨b,arr .u64 8 g,47⟩,⟨bR,arr .u64 8 (fun _=>0),47⟩,⟨bB,arr .u64 4 (dig 18446744073709551616 B),44⟩,⟨bA,arr .u64 4 (dig 18446744073709551616 A),44⟩]) (fun kk _ _=>4 - (intOf kk).toNat)
      case atStart=>exact⟨0,h,0,by omega,rfl,rfl,⟨HH.out,HZ.out,by omega,by omega,by simp[vB]⟩,S⟩
      case round =>
        clear S
        obtain⟨k,g,c,hk,rfl,rfl,hR,S⟩:=hrel
        by_cases hk4:k<4
        · have hk4' : (k : Int) < 4 := by omega
          obtain⟨p,hp⟩:∃ p:Nat,p=i+k:=⟨_,rfl⟩
          have g1:IntKind.i64.wrap ((i:Int)+(k:Int))=(p:Int):=by rw[wrap_small _ (by omega) (by omega)];omega
          have g2:(p:Int)<8:=by omega
          have Hx:=hide (arr_at .u64 8 g p (by omega))
          have Ha:=hide (arr_at .u64 4 (dig 18446744073709551616 A) i hlt)
          have Hb:=hide (arr_at .u64 4 (dig 18446744073709551616 B) k hk4)
          have ba:=dig_bd M_pos A i
          have bb:=dig_bd M_pos B k
          have hc0:=hR.c0
          have hc1:=hR.c1
          have hgb:=hR.bd p
          obtain⟨hi',lo,hm,m0,m1,m2,m3,HM⟩:=mulE (dig 18446744073709551616 A i) (dig 18446744073709551616 B k) ba.1 ba.2 bb.1 bb.2
          obtain⟨s1,o1,ha1,a0,a1,a2,a3,HA1⟩:=sumE lo (g p) 0 m2 m3 hgb.1 hgb.2 (by omega) (by omega)
          obtain⟨s2,o2,ha2,b0,b1,b2,b3,HA2⟩:=sumE s1 c 0 a0 a1 hc0 hc1 (by omega) (by omega)
          have HS:Hid (s2+18446744073709551616*(hi'+o1+o2)=c+g p+dig 18446744073709551616 A i*dig 18446744073709551616 B k):=row_sum _ _ _ _ _ _ _ _ _ HM.out HA1.out HA2.out
          have e1:IntKind.u64.wrap (hi'+o1)=hi'+o1:=by rw[IntKind.wrap_u64];omega
          have hpb:dig 18446744073709551616 A i*dig 18446744073709551616 B k≤18446744073709551615*18446744073709551615:=Int.mul_le_mul (by omega) (by omega) (by omega) (by omega)
          have hq1:hi'+o1+o2<18446744073709551616:=by have:=HS.out;omega
          have e2:IntKind.u64.wrap (hi'+o1+o2)=hi'+o1+o2:=by rw[IntKind.wrap_u64];omega
          have Hm:=hide hm
          have Hp:=hide hp
          have Hpb:=hide hpb
          clear hm hp hpb
          go_wp2_with fail
          refine Calm.region0 S 12 (by kernel_rfl) (by kernel_rfl) (fun S=> ?_)
          iterate 2 (first|(refine wn_move rfl (by rfl) (Or.inl rfl) ?_;simp only[Act.put,Act.eval,zQ])|(apply wn_val rfl (by rfl);(intro w;go_simp;rfl);simp only[Act.put,Act.eval,zQ]))
          (refine Calm.gn_load (ty:=24) rfl ?_;refine wn_loadE (ty:=24) (b:=bA) (v:= .int .u64 (dig 18446744073709551616 A i)) S rfl (by rfl) rfl rfl (by repeat constructor) Ha.out o64 ?_;simp only[Act.put,Act.eval,zQ])
          iterate 2 (first|(refine wn_move rfl (by rfl) (Or.inl rfl) ?_;simp only[Act.put,Act.eval,zQ])|(apply wn_val rfl (by rfl);(intro w;go_simp;rfl);simp only[Act.put,Act.eval,zQ]))
          (refine Calm.gn_load (ty:=24) rfl ?_;refine wn_loadE (ty:=24) (b:=bB) (v:= .int .u64 (dig 18446744073709551616 B k)) S rfl (by rfl) rfl rfl (by repeat constructor) Hb.out o64 ?_;simp only[Act.put,Act.eval,zQ])
          repeat(first|(refine wn_move rfl (by rfl) (Or.inl rfl) ?_;simp only[Act.put,Act.eval,zQ])|(refine wn_move rfl (by rfl) (Or.inr rfl) ?_;simp only[Act.put,Act.eval,zQ])|(apply wn_call (f:=51) rfl (by rfl) rfl;(intro w;go_simp;rfl);(intro w;exact Hm.out w);simp only[Act.put,Act.eval,zQ])|(apply wn_val rfl (by rfl);(intro w;go_simp;rfl);simp only[Act.put,Act.eval,zQ]))
          (refine wn_nil ?_;clear S;intro W S;simp only[Act.put,List.setIfInBounds_toArray,List.set_cons_zero,List.set_cons_succ,List.drop_succ_cons,List.drop_zero,List.drop_nil])
          go_wp2_with (first|(refine g_load (ty:=24) rfl ?_;refine wl_loadE (ty:=24) (b:=b) (v:= .int .u64 (g p)) S rfl rfl rfl (by repeat constructor) Hx.out o64 ?_)|(refine g_store (ty:=24) rfl ?_;refine wl_storeE (ty:=24) (b:=b) (cs:=arr .u64 8 (gset g p s2)) S rfl rfl rfl rfl (arr_set _ _ _ _ _) (by repeat(first|exact foc_hd|apply foc_tl)) o64 (by rw[Go.Arr.arr_size];omega) rfl ?_;clear S;intro W S)|simp only[ha1])
          go_roundw
          case rel=>
            have hp:=Hp.out
            subst hp
            exact⟨k+1,_,_,by omega,by go_num,rfl,hR.step (by omega) hk4 b0 b1 (by omega) hq1 HS.out,S⟩
          case measure=>simp[intOf];omega
        · have hk' : k = 4 := by omega
          subst hk'
          obtain⟨p,hp⟩:∃ p:Nat,p=i+4:=⟨_,rfl⟩
          have g1:IntKind.i64.wrap ((i:Int)+4)=(p:Int):=by rw[wrap_small _ (by omega) (by omega)];omega
          have g2:(p:Int)<8:=by omega
          have Hp:=hide hp
          clear hp
          go_wp2_with (first|(refine g_store (ty:=24) rfl ?_;refine wl_storeE (ty:=24) (b:=b) (cs:=arr .u64 8 (gset g p c)) S rfl rfl rfl rfl (arr_set _ _ _ _ _) (by repeat(first|exact foc_hd|apply foc_tl)) o64 (by rw[Go.Arr.arr_size];omega) rfl ?_;clear S;intro W S))
          go_roundw
          case rel=>
            have hp:=Hp.out
            subst hp
            obtain⟨q1,q2,q3⟩:=hR.close (by omega) HV.out
            exact⟨i+1,_,by omega,by go_num,q1,q2,q3,S⟩
          case measure=>simp[intOf];omega
    · have hk' : i = 4 := by omega
      subst hk'
      rw[prod_end A B h hA hB hh hv] at S
      go_wp2_with (first|(refine g_load (ty:=47) rfl ?_;refine wl_load (ty:=47) S rfl rfl rfl (by repeat constructor) aggWi (by first|exact(Go.Arr.arr_size _ _ _).symm|rfl) ?_)|(refine g_store (ty:=47) rfl ?_;refine wl_store (ty:=47) S rfl rfl rfl rfl (by repeat(first|exact foc_hd|apply foc_tl)) aggWi (by first|exact(Go.Arr.arr_size _ _ _).symm|rfl) (by first|exact(Go.Arr.arr_size _ _ _).symm|rfl) (by first|exact Go.Arr.arr_one _ _ _|rfl|simp[Value.oneCell']) ?_;clear S;intro W S))
      refine Calm.ret_cell S (by rfl) (by rfl) (by repeat constructor) aggWi (arr_size _ _ _).symm (by rfl) ?_
      exact⟨rfl,S.below⟩
end Go.Proofs.YtdebkddhpogkgaaGreat
