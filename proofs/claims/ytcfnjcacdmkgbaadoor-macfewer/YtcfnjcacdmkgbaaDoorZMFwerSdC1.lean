import Derived.Test.YtcfnjcacdmkgbaaDoorZMFwerSdB
import Derived.Test.YtcfnjcacdmkgbaaDoorZMFwerSdM1
set_option linter.unusedSimpArgs false
set_option linter.unusedVariables false
/-! The document's SHA-2: a text filled up, its contract. -/
namespace Go.Proofs.YtcfnjcacdmkgbaaDoor
open Go.RowKit Go.Ev
theorem np_agg (a:Array Value):np (.agg a)=true:=rfl
def ful2 (N:List Int):List Int:=N ++ [128] ++ List.replicate ((120 - (N.length+1)%64)%64) 0 ++ beL (N.length*8) 8
theorem ful2_len (N:List Int):(ful2 N).length=N.length+1+(120 - (N.length+1)%64)%64+8:=by
  unfold ful2
  simp only[List.length_append,List.length_cons,List.length_nil,List.length_replicate,beL_len]
def ful5 (N:List Int):List Int:=N ++ [128] ++ List.replicate ((240 - (N.length+1)%128)%128) 0 ++ beL (N.length*8) 16
theorem ful5_len (N:List Int):(ful5 N).length=N.length+1+(240 - (N.length+1)%128)%128+16:=by
  unfold ful5
  simp only[List.length_append,List.length_cons,List.length_nil,List.length_replicate,beL_len]
end Go.Proofs.YtcfnjcacdmkgbaaDoor

set_option linter.unusedSimpArgs false
set_option linter.unusedVariables false
/-! The document's sum is the program's. -/
namespace Go.Proofs.YtcfnjcacdmkgbaaDoor
open Go.RowKit Go.Ev
theorem oradd32 (x y s:Nat) (h:y<2 ^ s) (hx:x*2 ^ s+y<4294967296):bits .or .u32 ((x*2 ^ s:Nat):Int) (y:Int)=((x*2 ^ s+y:Nat):Int):=by
  rw[o32 _ _ (by omega) (by omega),Nat.mul_comm x,Nat.two_pow_add_eq_or_of_lt h]
theorem oradd64 (x y s:Nat) (h:y<2 ^ s) (hx:x*2 ^ s+y<18446744073709551616):bits .or .u64 ((x*2 ^ s:Nat):Int) (y:Int)=((x*2 ^ s+y:Nat):Int):=by
  rw[o64 _ _ (by omega) (by omega),Nat.mul_comm x,Nat.two_pow_add_eq_or_of_lt h]
theorem wd2_val {a:Array Value} {q:Nat} {b0 b1 b2 b3:Int} (e0:iat a (q+0)=b0) (e1:iat a (q+1)=b1) (e2:iat a (q+2)=b2) (e3:iat a (q+3)=b3) (h0:0≤b0∧b0<256) (h1:0≤b1∧b1<256) (h2:0≤b2∧b2<256) (h3:0≤b3∧b3<256):wd2 a q=((b0*256+b1)*256+b2)*256+b3:=by
  obtain⟨n0,rfl⟩:=Int.eq_ofNat_of_zero_le h0.1
  obtain⟨n1,rfl⟩:=Int.eq_ofNat_of_zero_le h1.1
  obtain⟨n2,rfl⟩:=Int.eq_ofNat_of_zero_le h2.1
  obtain⟨n3,rfl⟩:=Int.eq_ofNat_of_zero_le h3.1
  have k0:=h0.2
  have k1:=h1.2
  have k2:=h2.2
  have k3:=h3.2
  unfold wd2
  rw[e0,e1,e2,e3]
  have p24:(2:Int) ^ (24)=16777216:=by decide
  have p16:(2:Int) ^ (16)=65536:=by decide
  have p8:(2:Int) ^ (8)=256:=by decide
  have t0:IntKind.u32.wrap (IntKind.u32.wrap (n0:Int)*2 ^ (24))=((n0*2 ^ 24:Nat):Int):=by rw[p24];simp only[IntKind.wrap_u32];omega
  have t1:IntKind.u32.wrap (IntKind.u32.wrap (n1:Int)*2 ^ (16))=((n1*65536:Nat):Int):=by rw[p16];simp only[IntKind.wrap_u32];omega
  have t2:IntKind.u32.wrap (IntKind.u32.wrap (n2:Int)*2 ^ (8))=((n2*256:Nat):Int):=by rw[p8];simp only[IntKind.wrap_u32];omega
  have t3:IntKind.u32.wrap (n3:Int)=(n3:Int):=by rw[IntKind.wrap_u32];omega
  rw[t0,t1,t2,t3,oradd32 n0 (n1*65536) 24 (by omega) (by omega)]
  rw[show n0*2 ^ 24+n1*65536=(n0*256+n1)*2 ^ 16 from by omega,oradd32 _ (n2*256) 16 (by omega) (by omega)]
  rw[show(n0*256+n1)*2 ^ 16+n2*256=((n0*256+n1)*256+n2)*2 ^ 8 from by omega,oradd32 _ n3 8 (by omega) (by omega)]
  omega
theorem stepW {x b:Int} (h0:0≤x) (h1:x*256+255<18446744073709551616) (hb:0≤b∧b<256):IntKind.u64.wrap (IntKind.u64.wrap (x*256)+IntKind.u64.wrap b)=x*256+b:=by
  simp only[IntKind.wrap_u64];omega
theorem stepZ {b:Int} (hb:0≤b∧b<256):IntKind.u64.wrap (0+IntKind.u64.wrap b)=b:=by
  simp only[IntKind.wrap_u64];omega
theorem wdq2 {a:Array Value} {q:Nat} {A:List Int} {p i:Nat} (h:∀ j,j<4→iat a (q+j)=A.getD (p+i*4+j) 0∧0≤iat a (q+j)∧iat a (q+j)<256):xw2 A p i=wd2 a q∧W2 (wd2 a q):=by
  obtain⟨e0,h0⟩:=h 0 (by decide)
  obtain⟨e1,h1⟩:=h 1 (by decide)
  obtain⟨e2,h2⟩:=h 2 (by decide)
  obtain⟨e3,h3⟩:=h 3 (by decide)
  rw[Nat.add_zero (p+i*4)] at e0
  rw[wd2_val rfl rfl rfl rfl h0 h1 h2 h3]
  unfold xw2
  rw[← e0,← e1,← e2,← e3]
  generalize iat a (q+0)=b0 at*
  generalize iat a (q+1)=b1 at*
  generalize iat a (q+2)=b2 at*
  generalize iat a (q+3)=b3 at*
  rw[stepZ h0,stepW (by omega) (by omega) h1,stepW (by omega) (by omega) h2,stepW (by omega) (by omega) h3]
  exact⟨rfl,by omega,by omega⟩
theorem wdq5 {a:Array Value} {q:Nat} {A:List Int} {p i:Nat} (h:∀ j,j<8→iat a (q+j)=A.getD (p+i*8+j) 0∧0≤iat a (q+j)∧iat a (q+j)<256):xw5 A p i=wd5 a q∧W5 (wd5 a q):=by
  obtain⟨e0,h0⟩:=h 0 (by decide)
  obtain⟨e1,h1⟩:=h 1 (by decide)
  obtain⟨e2,h2⟩:=h 2 (by decide)
  obtain⟨e3,h3⟩:=h 3 (by decide)
  obtain⟨e4,h4⟩:=h 4 (by decide)
  obtain⟨e5,h5⟩:=h 5 (by decide)
  obtain⟨e6,h6⟩:=h 6 (by decide)
  obtain⟨e7,h7⟩:=h 7 (by decide)
  rw[Nat.add_zero (p+i*8)] at e0
  have v1:=wd2_val (a:=a) (q:=q) rfl rfl rfl rfl h0 h1 h2 h3
  have v2:=wd2_val (a:=a) (q:=q+4) (b0:=iat a (q+4)) (b1:=iat a (q+5)) (b2:=iat a (q+6)) (b3:=iat a (q+7)) rfl (by rw[Nat.add_assoc]) (by rw[Nat.add_assoc]) (by rw[Nat.add_assoc]) h4 h5 h6 h7
  unfold wd5 xw5
  rw[← e0,← e1,← e2,← e3,← e4,← e5,← e6,← e7]
  generalize wd2 a q=y1 at*
  generalize wd2 a (q+4)=y2 at*
  generalize iat a (q+0)=b0 at*
  generalize iat a (q+1)=b1 at*
  generalize iat a (q+2)=b2 at*
  generalize iat a (q+3)=b3 at*
  generalize iat a (q+4)=b4 at*
  generalize iat a (q+5)=b5 at*
  generalize iat a (q+6)=b6 at*
  generalize iat a (q+7)=b7 at*
  rw[stepZ h0,stepW (by omega) (by omega) h1,stepW (by omega) (by omega) h2,stepW (by omega) (by omega) h3,stepW (by omega) (by omega) h4,stepW (by omega) (by omega) h5,stepW (by omega) (by omega) h6,stepW (by omega) (by omega) h7]
  have r1:0≤y1∧y1<4294967296:=by omega
  have r2:0≤y2∧y2<4294967296:=by omega
  obtain⟨n1,rfl⟩:=Int.eq_ofNat_of_zero_le r1.1
  obtain⟨n2,rfl⟩:=Int.eq_ofNat_of_zero_le r2.1
  have p32:(2:Int) ^ (32)=4294967296:=by decide
  have t1:IntKind.u64.wrap (IntKind.u64.wrap (n1:Int)*2 ^ (32))=((n1*2 ^ 32:Nat):Int):=by rw[p32];simp only[IntKind.wrap_u64];omega
  have t2:IntKind.u64.wrap (n2:Int)=(n2:Int):=by rw[IntKind.wrap_u64];omega
  rw[t1,t2,oradd64 n1 n2 32 (by omega) (by omega)]
  exact⟨by omega,by omega,by omega⟩
theorem beL_get (n:Nat):∀(k t:Nat),t<k→(beL n k).getD t 0=((n / 256 ^ (k - 1 - t)%256:Nat):Int)
  |0,t,h=>by omega
  |k+1,0,h=>by rw[beL];rfl
  | k + 1, t + 1, h => by
    rw[beL,List.getD_cons_succ,beL_get n k t (by omega)]
    rw[show k+1 - 1 - (t+1)=k - 1 - t from by omega]
theorem getD_app {L M:List Int} {i:Nat}:(L ++ M).getD i 0=if i<L.length then L.getD i 0 else M.getD (i - L.length) 0:=by
  rw[List.getD_eq_getElem?_getD,List.getElem?_append]
  split<;>rw[List.getD_eq_getElem?_getD]
theorem getD_rep {m i:Nat}:(List.replicate m (0:Int)).getD i 0=0:=by
  rw[List.getD_eq_getElem?_getD,List.getElem?_replicate]
  split<;>rfl
theorem lset_get {N p i:Nat} {L:List Int} {x:Int}:(lset N L p x).getD i 0=if i<N then(if i=p then x else L.getD i 0) else 0:=by
  split
  · rename_i h;exact lset_at h
  · rename_i h
    unfold lset
    rw[List.getD_eq_getElem?_getD,List.getElem?_eq_none (by simp;omega)];rfl
theorem u8n (n s:Nat):IntKind.u8.wrap (((n:Nat):Int) / 2 ^ s)=((n / 2 ^ s%256:Nat):Int):=by
  have e:((n:Nat):Int) / 2 ^ s=((n / 2 ^ s:Nat):Int):=by simp
  rw[e,IntKind.wrap_u8];omega
theorem toS_get {S:List Int} {i:Nat} (h:i<8): [(toS S).a,(toS S).b,(toS S).c,(toS S).d,(toS S).e,(toS S).f,(toS S).g,(toS S).h].getD i 0=S.getD i 0:=by
  have h8:i=0∨i=1∨i=2∨i=3∨i=4∨i=5∨i=6∨i=7:=by omega
  rcases h8 with rfl|rfl|rfl|rfl|rfl|rfl|rfl|rfl<;>rfl
theorem fSq2 {A:List Int} {a:Array Value} {o q cnt:Nat} {S:List Int} (h0:toS S=hsD2 A q) (hW:WS2 (toS S)) (h:∀ j,j<64*cnt→iat a (o+j)=A.getD (64*q+j) 0∧0≤iat a (o+j)∧iat a (o+j)<256):∀ k,k≤cnt→toS (fS2 S a o k)=hsD2 A (q+k)∧WS2 (toS (fS2 S a o k))
  |0,_=>⟨h0,hW⟩
  | k + 1, hk => by
    obtain⟨h1,h2⟩:=fSq2 h0 hW h k (by omega)
    obtain⟨h3,h4⟩:=blockq2 A (64*(q+k)) (fun i=>wd2 a (o+64*k+4*i)) (fun i hi=>wdq2 (fun j hj=>by
      have:=h (64*k+4*i+j) (by omega)
      rw[show o+64*k+4*i+j=o+(64*k+4*i+j) from by omega,show 64*(q+k)+i*4+j=64*q+(64*k+4*i+j) from by omega]
      exact this)) (fS2 S a o k) h2
    rw[fS2,← Nat.add_assoc,hsD2,← h1,h3]
    exact⟨rfl,h4⟩
theorem ful2_get (N:List Int) (j Z:Nat) (hZ:Z=(120 - (N.length+1)%64)%64):(ful2 N).getD j 0=if j<N.length then N.getD j 0 else if j=N.length then 128 else if j<N.length+1+Z then 0 else(beL (N.length*8) 8).getD (j - (N.length+1+Z)) 0:=by
  unfold ful2
  rw[← hZ,getD_app,getD_app,getD_app]
  simp only[List.length_append,List.length_cons,List.length_nil,List.length_replicate,getD_rep]
  by_cases h1:j<N.length
  · rw[if_pos (by omega),if_pos (by omega),if_pos h1,if_pos h1]
  · rw [if_neg h1, if_neg h1]
    by_cases h2:j=N.length
    · rw[if_pos (by omega),if_pos (by omega),if_pos h2,h2,Nat.sub_self];rfl
    · rw [if_neg h2]
      by_cases h3:j<N.length+1+Z
      · rw[if_pos (by omega),if_neg (by omega),if_pos h3]
      · rw[if_neg (by omega),if_neg h3]
theorem endq2 {a : Array Value} {o l : Nat} (hb : bytesAt a o l) (hl : l ≤ 1000000000) (j : Nat) (hj : j < endN2 l) : iat (endC2 a o l) (0 + j) = (ful2 (bL a o l)).getD (64 * (l / 64) + j) 0 := by
  have hN:=bL_len a o l
  have hE:endN2 l=if 64<l%64+9 then 128 else 64:=rfl
  obtain⟨Z,hZ⟩:∃ Z,Z=(120 - (l+1)%64)%64:=⟨_,rfl⟩
  have hL:l+1+Z+8=64*(l / 64)+endN2 l:=by rw[hE];split<;>omega
  rw[ful2_get _ _ Z (by rw[hN];exact hZ),hN]
  have e:iat (endC2 a o l) (0+j)=(pad8 (endN2 l) (tl2 a o l) ((8*l:Nat):Int)).getD j 0:=by
    unfold endC2 iat
    rw[Nat.zero_add,wA_at hj]
  rw[e]
  have hle:=Nat.mod_le l 64
  have hdm:=Nat.div_add_mod l 64
  have ht : (tl2 a o l).getD j 0 = if j < l % 64 then iat a (o + (l - l % 64) + j) else if j = l % 64 then 128 else 0 := by
    unfold tl2
    rw[getD_app,bL_len]
    split
    · rename_i h;rw[bL_at,if_pos h]
    · split
      · rename_i h1 h2;rw[h2,Nat.sub_self];rfl
      · rw[List.getD_eq_getElem?_getD,List.getElem?_eq_none (by simp;omega)];rfl
  unfold pad8
  simp only[lset_get,if_pos hj,ht,u8n]
  have hE9:l%64+9≤endN2 l:=by rw[hE];split<;>omega
  by_cases h1:j<l%64
  · rw [if_neg (by omega), if_neg (by omega), if_neg (by omega), if_neg (by omega), if_neg (by omega), if_neg (by omega), if_neg (by omega), if_neg (by omega), if_pos h1, if_pos (by omega), bL_at, if_pos (by omega)]
    congr 1;omega
  · by_cases h2 : j = l % 64
    · rw[if_neg (by omega),if_neg (by omega),if_neg (by omega),if_neg (by omega),if_neg (by omega),if_neg (by omega),if_neg (by omega),if_neg (by omega),if_neg h1,if_pos h2,if_neg (by omega),if_pos (by omega)]
    · rw [if_neg h1, if_neg h2, if_neg (show ¬ 64 * (l / 64) + j < l by omega), if_neg (show ¬ 64 * (l / 64) + j = l by omega)]
      by_cases h3:64*(l / 64)+j<l+1+Z
      · rw[if_pos h3,if_neg (by omega),if_neg (by omega),if_neg (by omega),if_neg (by omega),if_neg (by omega),if_neg (by omega),if_neg (by omega),if_neg (by omega)]
      · rw [if_neg h3]
        obtain⟨m,hm⟩:∃ m,m=endN2 l - 1 - j:=⟨_,rfl⟩
        have hmW:m<8:=by omega
        rw[beL_get _ _ _ (by omega),show 8 - 1 - (64*(l / 64)+j - (l+1+Z))=m from by omega,Nat.mul_comm 8 l]
        have hj2:j=endN2 l - 1 - m:=by omega
        have hbig:l*8<18446744073709551616:=by omega
        generalize l*8=c at hbig ⊢
        have hpos:8≤endN2 l:=by omega
        generalize endN2 l=E at*
        have h8:m=0∨m=1∨m=2∨m=3∨m=4∨m=5∨m=6∨m=7:=by omega
        rcases h8 with rfl|rfl|rfl|rfl|rfl|rfl|rfl|rfl
        · rw[if_neg (by omega),if_neg (by omega),if_neg (by omega),if_neg (by omega),if_neg (by omega),if_neg (by omega),if_neg (by omega),if_pos (by omega)]
        · rw[if_neg (by omega),if_neg (by omega),if_neg (by omega),if_neg (by omega),if_neg (by omega),if_neg (by omega),if_pos (by omega)]
        · rw[if_neg (by omega),if_neg (by omega),if_neg (by omega),if_neg (by omega),if_neg (by omega),if_pos (by omega)]
        · rw[if_neg (by omega),if_neg (by omega),if_neg (by omega),if_neg (by omega),if_pos (by omega)]
        · rw[if_neg (by omega),if_neg (by omega),if_neg (by omega),if_pos (by omega)]
        · rw[if_neg (by omega),if_neg (by omega),if_pos (by omega)]
        · rw[if_neg (by omega),if_pos (by omega)]
        · rw[if_pos (by omega)]
theorem outq2 (S:List Int):oL2 [(toS S).a,(toS S).b,(toS S).c,(toS S).d,(toS S).e,(toS S).f,(toS S).g,(toS S).h] 32=out2 S:=by
  unfold oL2 out2
  apply List.map_congr_left
  intro x hx
  have hx':x<32:=by simpa using hx
  rw[toS_get (by omega),show min (8*(3 - x%4)) 64=24 - x%4*8 from by omega]
theorem sumq2 {a:Array Value} {o l:Nat} (hb:bytesAt a o l) (hl:l≤1000000000) {y:S8} {Bn:Nat} (hB:(ful2 (bL a o l)).length=64*Bn) (hy:y=hsD2 (ful2 (bL a o l)) Bn):oL2 [y.a,y.b,y.c,y.d,y.e,y.f,y.g,y.h] 32=sum2 a o l:=by
  have hN:=bL_len a o l
  have hlen:=ful2_len (bL a o l)
  rw[hN] at hlen
  have hE:endN2 l=if 64<l%64+9 then 128 else 64:=rfl
  have hdm:=Nat.div_add_mod l 64
  obtain⟨h1,h2⟩:=fSq2 (A:=ful2 (bL a o l)) (a:=a) (o:=o) (q:=0) (cnt:=l / 64) (S:=bg2) rfl (by constructor<;>(constructor<;>decide)) (fun j hj=>by
    have hj':j<l:=by omega
    rw[ful2_get _ _ _ rfl,hN,if_pos (by omega),bL_at,if_pos (by omega)]
    refine⟨by congr 1;omega,(hb j hj').2⟩) (l / 64) (Nat.le_refl _)
  rw[Nat.zero_add] at h1
  have hC:=end2_bytes hb
  obtain⟨h3,h4⟩:=fSq2 (A:=ful2 (bL a o l)) (a:=endC2 a o l) (o:=0) (q:=l / 64) (cnt:=endN2 l / 64) h1 h2 (fun j hj=>by
    have hj':j<endN2 l:=by have:=endN2_mul l;omega
    exact⟨endq2 hb hl j hj',(hC j hj').2⟩) (endN2 l / 64) (Nat.le_refl _)
  have hBn : Bn = l / 64 + endN2 l / 64 := by
    have h2c:(endN2 l=128∧64<l%64+9)∨(endN2 l=64∧¬ 64<l%64+9):=by
      rw[hE]
      split
      · exact .inl ⟨rfl,by assumption⟩
      · exact .inr ⟨rfl,by assumption⟩
    rcases h2c with⟨e,h⟩|⟨e,h⟩<;>rw[e]<;>omega
  rw[hy,hBn,← h3,outq2]
  rfl
theorem fSq5 {A:List Int} {a:Array Value} {o q cnt:Nat} {S:List Int} (h0:toS S=hsD5 A q) (hW:WS5 (toS S)) (h:∀ j,j<128*cnt→iat a (o+j)=A.getD (128*q+j) 0∧0≤iat a (o+j)∧iat a (o+j)<256):∀ k,k≤cnt→toS (fS5 S a o k)=hsD5 A (q+k)∧WS5 (toS (fS5 S a o k))
  |0,_=>⟨h0,hW⟩
  | k + 1, hk => by
    obtain⟨h1,h2⟩:=fSq5 h0 hW h k (by omega)
    obtain⟨h3,h4⟩:=blockq5 A (128*(q+k)) (fun i=>wd5 a (o+128*k+8*i)) (fun i hi=>wdq5 (fun j hj=>by
      have:=h (128*k+8*i+j) (by omega)
      rw[show o+128*k+8*i+j=o+(128*k+8*i+j) from by omega,show 128*(q+k)+i*8+j=128*q+(128*k+8*i+j) from by omega]
      exact this)) (fS5 S a o k) h2
    rw[fS5,← Nat.add_assoc,hsD5,← h1,h3]
    exact⟨rfl,h4⟩
theorem ful5_get (N:List Int) (j Z:Nat) (hZ:Z=(240 - (N.length+1)%128)%128):(ful5 N).getD j 0=if j<N.length then N.getD j 0 else if j=N.length then 128 else if j<N.length+1+Z then 0 else(beL (N.length*8) 16).getD (j - (N.length+1+Z)) 0:=by
  unfold ful5
  rw[← hZ,getD_app,getD_app,getD_app]
  simp only[List.length_append,List.length_cons,List.length_nil,List.length_replicate,getD_rep]
  by_cases h1:j<N.length
  · rw[if_pos (by omega),if_pos (by omega),if_pos h1,if_pos h1]
  · rw [if_neg h1, if_neg h1]
    by_cases h2:j=N.length
    · rw[if_pos (by omega),if_pos (by omega),if_pos h2,h2,Nat.sub_self];rfl
    · rw [if_neg h2]
      by_cases h3:j<N.length+1+Z
      · rw[if_pos (by omega),if_neg (by omega),if_pos h3]
      · rw[if_neg (by omega),if_neg h3]
theorem endq5 {a : Array Value} {o l : Nat} (hb : bytesAt a o l) (hl : l ≤ 1000000000) (j : Nat) (hj : j < endN5 l) : iat (endC5 a o l) (0 + j) = (ful5 (bL a o l)).getD (128 * (l / 128) + j) 0 := by
  have hN:=bL_len a o l
  have hE:endN5 l=if 128<l%128+17 then 256 else 128:=rfl
  obtain⟨Z,hZ⟩:∃ Z,Z=(240 - (l+1)%128)%128:=⟨_,rfl⟩
  have hL:l+1+Z+16=128*(l / 128)+endN5 l:=by rw[hE];split<;>omega
  rw[ful5_get _ _ Z (by rw[hN];exact hZ),hN]
  have e:iat (endC5 a o l) (0+j)=(pad8 (endN5 l) (tl5 a o l) ((8*l:Nat):Int)).getD j 0:=by
    unfold endC5 iat
    rw[Nat.zero_add,wA_at hj]
  rw[e]
  have hle:=Nat.mod_le l 128
  have hdm:=Nat.div_add_mod l 128
  have ht : (tl5 a o l).getD j 0 = if j < l % 128 then iat a (o + (l - l % 128) + j) else if j = l % 128 then 128 else 0 := by
    unfold tl5
    rw[getD_app,bL_len]
    split
    · rename_i h;rw[bL_at,if_pos h]
    · split
      · rename_i h1 h2;rw[h2,Nat.sub_self];rfl
      · rw[List.getD_eq_getElem?_getD,List.getElem?_eq_none (by simp;omega)];rfl
  unfold pad8
  simp only[lset_get,if_pos hj,ht,u8n]
  have hE9:l%128+17≤endN5 l:=by rw[hE];split<;>omega
  by_cases h1:j<l%128
  · rw [if_neg (by omega), if_neg (by omega), if_neg (by omega), if_neg (by omega), if_neg (by omega), if_neg (by omega), if_neg (by omega), if_neg (by omega), if_pos h1, if_pos (by omega), bL_at, if_pos (by omega)]
    congr 1;omega
  · by_cases h2 : j = l % 128
    · rw[if_neg (by omega),if_neg (by omega),if_neg (by omega),if_neg (by omega),if_neg (by omega),if_neg (by omega),if_neg (by omega),if_neg (by omega),if_neg h1,if_pos h2,if_neg (by omega),if_pos (by omega)]
    · rw [if_neg h1, if_neg h2, if_neg (show ¬ 128 * (l / 128) + j < l by omega), if_neg (show ¬ 128 * (l / 128) + j = l by omega)]
      by_cases h3:128*(l / 128)+j<l+1+Z
      · rw[if_pos h3,if_neg (by omega),if_neg (by omega),if_neg (by omega),if_neg (by omega),if_neg (by omega),if_neg (by omega),if_neg (by omega),if_neg (by omega)]
      · rw [if_neg h3]
        obtain⟨m,hm⟩:∃ m,m=endN5 l - 1 - j:=⟨_,rfl⟩
        have hmW:m<16:=by omega
        rw[beL_get _ _ _ (by omega),show 16 - 1 - (128*(l / 128)+j - (l+1+Z))=m from by omega,Nat.mul_comm 8 l]
        have hj2:j=endN5 l - 1 - m:=by omega
        have hbig:l*8<18446744073709551616:=by omega
        generalize l*8=c at hbig ⊢
        have hpos:16≤endN5 l:=by omega
        generalize endN5 l=E at*
        have h8:m=0∨m=1∨m=2∨m=3∨m=4∨m=5∨m=6∨m=7∨m=8∨m=9∨m=10∨m=11∨m=12∨m=13∨m=14∨m=15:=by omega
        rcases h8 with rfl|rfl|rfl|rfl|rfl|rfl|rfl|rfl|rfl|rfl|rfl|rfl|rfl|rfl|rfl|rfl
        · rw[if_neg (by omega),if_neg (by omega),if_neg (by omega),if_neg (by omega),if_neg (by omega),if_neg (by omega),if_neg (by omega),if_pos (by omega)]
        · rw[if_neg (by omega),if_neg (by omega),if_neg (by omega),if_neg (by omega),if_neg (by omega),if_neg (by omega),if_pos (by omega)]
        · rw[if_neg (by omega),if_neg (by omega),if_neg (by omega),if_neg (by omega),if_neg (by omega),if_pos (by omega)]
        · rw[if_neg (by omega),if_neg (by omega),if_neg (by omega),if_neg (by omega),if_pos (by omega)]
        · rw[if_neg (by omega),if_neg (by omega),if_neg (by omega),if_pos (by omega)]
        · rw[if_neg (by omega),if_neg (by omega),if_pos (by omega)]
        · rw[if_neg (by omega),if_pos (by omega)]
        · rw[if_pos (by omega)]
        · rw[if_neg (by omega),if_neg (by omega),if_neg (by omega),if_neg (by omega),if_neg (by omega),if_neg (by omega),if_neg (by omega),if_neg (by omega),Nat.div_eq_of_lt (Nat.lt_of_lt_of_le hbig (by decide))];rfl
        · rw[if_neg (by omega),if_neg (by omega),if_neg (by omega),if_neg (by omega),if_neg (by omega),if_neg (by omega),if_neg (by omega),if_neg (by omega),Nat.div_eq_of_lt (Nat.lt_of_lt_of_le hbig (by decide))];rfl
        · rw[if_neg (by omega),if_neg (by omega),if_neg (by omega),if_neg (by omega),if_neg (by omega),if_neg (by omega),if_neg (by omega),if_neg (by omega),Nat.div_eq_of_lt (Nat.lt_of_lt_of_le hbig (by decide))];rfl
        · rw[if_neg (by omega),if_neg (by omega),if_neg (by omega),if_neg (by omega),if_neg (by omega),if_neg (by omega),if_neg (by omega),if_neg (by omega),Nat.div_eq_of_lt (Nat.lt_of_lt_of_le hbig (by decide))];rfl
        · rw[if_neg (by omega),if_neg (by omega),if_neg (by omega),if_neg (by omega),if_neg (by omega),if_neg (by omega),if_neg (by omega),if_neg (by omega),Nat.div_eq_of_lt (Nat.lt_of_lt_of_le hbig (by decide))];rfl
        · rw[if_neg (by omega),if_neg (by omega),if_neg (by omega),if_neg (by omega),if_neg (by omega),if_neg (by omega),if_neg (by omega),if_neg (by omega),Nat.div_eq_of_lt (Nat.lt_of_lt_of_le hbig (by decide))];rfl
        · rw[if_neg (by omega),if_neg (by omega),if_neg (by omega),if_neg (by omega),if_neg (by omega),if_neg (by omega),if_neg (by omega),if_neg (by omega),Nat.div_eq_of_lt (Nat.lt_of_lt_of_le hbig (by decide))];rfl
        · rw[if_neg (by omega),if_neg (by omega),if_neg (by omega),if_neg (by omega),if_neg (by omega),if_neg (by omega),if_neg (by omega),if_neg (by omega),Nat.div_eq_of_lt (Nat.lt_of_lt_of_le hbig (by decide))];rfl
theorem outq5 (S:List Int):oL5 [(toS S).a,(toS S).b,(toS S).c,(toS S).d,(toS S).e,(toS S).f,(toS S).g,(toS S).h] 64=out5 S:=by
  unfold oL5 out5
  apply List.map_congr_left
  intro x hx
  have hx':x<64:=by simpa using hx
  rw[toS_get (by omega),show min (8*(7 - x%8)) 64=56 - x%8*8 from by omega]
theorem sumq5 {a:Array Value} {o l:Nat} (hb:bytesAt a o l) (hl:l≤1000000000) {y:S8} {Bn:Nat} (hB:(ful5 (bL a o l)).length=128*Bn) (hy:y=hsD5 (ful5 (bL a o l)) Bn):oL5 [y.a,y.b,y.c,y.d,y.e,y.f,y.g,y.h] 64=sum5 a o l:=by
  have hN:=bL_len a o l
  have hlen:=ful5_len (bL a o l)
  rw[hN] at hlen
  have hE:endN5 l=if 128<l%128+17 then 256 else 128:=rfl
  have hdm:=Nat.div_add_mod l 128
  obtain⟨h1,h2⟩:=fSq5 (A:=ful5 (bL a o l)) (a:=a) (o:=o) (q:=0) (cnt:=l / 128) (S:=bg5) rfl (by constructor<;>(constructor<;>decide)) (fun j hj=>by
    have hj':j<l:=by omega
    rw[ful5_get _ _ _ rfl,hN,if_pos (by omega),bL_at,if_pos (by omega)]
    refine⟨by congr 1;omega,(hb j hj').2⟩) (l / 128) (Nat.le_refl _)
  rw[Nat.zero_add] at h1
  have hC:=end5_bytes hb
  obtain⟨h3,h4⟩:=fSq5 (A:=ful5 (bL a o l)) (a:=endC5 a o l) (o:=0) (q:=l / 128) (cnt:=endN5 l / 128) h1 h2 (fun j hj=>by
    have hj':j<endN5 l:=by have:=endN5_mul l;omega
    exact⟨endq5 hb hl j hj',(hC j hj').2⟩) (endN5 l / 128) (Nat.le_refl _)
  have hBn : Bn = l / 128 + endN5 l / 128 := by
    have h2c:(endN5 l=256∧128<l%128+17)∨(endN5 l=128∧¬ 128<l%128+17):=by
      rw[hE]
      split
      · exact .inl ⟨rfl,by assumption⟩
      · exact .inr ⟨rfl,by assumption⟩
    rcases h2c with⟨e,h⟩|⟨e,h⟩<;>rw[e]<;>omega
  rw[hy,hBn,← h3,outq5]
  rfl
end Go.Proofs.YtcfnjcacdmkgbaaDoor

set_option linter.unusedSimpArgs false
set_option linter.unusedVariables false
/-! The same bytes, with one more behind them. -/
namespace Go.Proofs.YtcfnjcacdmkgbaaDoor
open Go.RowKit Go.Ev
variable {a:Array Value} {t:Tq} {o l cp:Nat} {N:List Int}
variable {k2:Nat}
variable {N:List Int}
variable {k2:Nat}
end Go.Proofs.YtcfnjcacdmkgbaaDoor
