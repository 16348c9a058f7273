import Derived.Test.YthldpfindbhkeaaZSPvalSchAll
import Derived.Test.YthldpfindbhkeaaZSPvalSiA1
set_option linter.unusedSimpArgs false
set_option linter.unusedVariables false
/-! siv: the field of 2 to the 128, elements as numbers. -/
namespace Go.Proofs.Ythldpfindbhkeaa
def fM:Nat:=0xe1 <<< 120
def fO:Nat:=2 ^ 127+2 ^ 126+2 ^ 121+1
def fD (n:Nat):Nat:=(n >>> 1) ^^^ (bif n.testBit 0 then fM else 0)
def fR (a b:Nat):Nat→Nat
  |0=>0
  |i+1=>fD (fR a b i ^^^ (bif a.testBit i then b else 0))
def fdot (a b:Nat):Nat:=fR a b 128
def fI:Nat→Nat→Nat
  |0,b=>b
  |k+1,b=>fD (fI k b)
def LinF (f:Nat→Nat):Prop:=∀ x y,f (x ^^^ y)=f x ^^^ f y
theorem LinF.zero {f:Nat→Nat} (h:LinF f):f 0=0:=by
  have:=h 0 0
  rw[Nat.xor_self,Nat.xor_self] at this
  exact this
theorem xor4 (a b c d:Nat):(a ^^^ b) ^^^ (c ^^^ d)=(a ^^^ c) ^^^ (b ^^^ d):=by ac_rfl
theorem sel_xor (p q:Bool) (b:Nat):(bif p ^^ q then b else 0)=(bif p then b else 0) ^^^ (bif q then b else 0):=by
  cases p<;>cases q<;>simp
theorem sel_lin (p:Bool) (b c:Nat):(bif p then b ^^^ c else 0)=(bif p then b else 0) ^^^ (bif p then c else 0):=by
  cases p<;>simp
theorem fD_lin:LinF fD:=fun x y=>by
  unfold fD
  rw[Nat.shiftRight_xor_distrib,Nat.testBit_xor,sel_xor,xor4]
theorem fR_a (a a' b:Nat):∀ i,fR (a ^^^ a') b i=fR a b i ^^^ fR a' b i
  |0=>(Nat.xor_self 0).symm
  |i+1=>by rw[fR,fR,fR,fR_a a a' b i,Nat.testBit_xor,sel_xor,xor4,fD_lin]
theorem fR_b (a b b':Nat):∀ i,fR a (b ^^^ b') i=fR a b i ^^^ fR a b' i
  |0=>(Nat.xor_self 0).symm
  |i+1=>by rw[fR,fR,fR,fR_b a b b' i,sel_lin,xor4,fD_lin]
theorem fdot_a (b:Nat):LinF (fun a=>fdot a b):=fun x y=>fR_a x y b 128
theorem fdot_b (a:Nat):LinF (fun b=>fdot a b):=fun x y=>fR_b a x y 128
theorem fI_lin:∀ k,LinF (fI k)
  |0=>fun _ _=>rfl
  |k+1=>fun x y=>by rw[fI,fI,fI,fI_lin k,fD_lin]
theorem fD_lt {n:Nat} (h:n<2 ^ 128):fD n<2 ^ 128:=by
  have hM:fM<2 ^ 128:=by decide
  refine Nat.xor_lt_two_pow ?_ ?_
  · rw[Nat.shiftRight_eq_div_pow];omega
  · cases n.testBit 0
    · exact Nat.two_pow_pos _
    · exact hM
theorem fR_lt {a b:Nat} (h:b<2 ^ 128):∀ i,fR a b i<2 ^ 128
  |0=>Nat.two_pow_pos _
  |i+1=>fD_lt (Nat.xor_lt_two_pow (fR_lt h i) (by cases a.testBit i<;>first|exact Nat.two_pow_pos _|exact h))
theorem split_top {n k : Nat} (h : n < 2 ^ (k + 1)) (hk : ¬ n < 2 ^ k) : n = 2 ^ k ^^^ (n % 2 ^ k) := by
  apply Nat.eq_of_testBit_eq
  intro i
  rw[Nat.testBit_xor,Nat.testBit_two_pow,Nat.testBit_mod_two_pow]
  by_cases e:k=i
  · subst e
    have : n.testBit k = true := by
      have h1:n / 2 ^ k=1:=by
        rw[Nat.pow_succ] at h
        have:=Nat.div_lt_of_lt_mul (m:=n) (n:=2 ^ k) (k:=2) (by omega)
        have h2:0<n / 2 ^ k:=Nat.div_pos (by omega) (Nat.two_pow_pos _)
        omega
      rw[Nat.testBit_eq_decide_div_mod_eq,h1];rfl
    rw[this];simp
  · by_cases h2 : i < k
    · simp[e,h2]
    · have : n.testBit i = false := Nat.testBit_lt_two_pow (Nat.lt_of_lt_of_le h (Nat.pow_le_pow_right (by decide) (by omega)))
      rw[this];simp[e,h2]
theorem linF_ext {f g:Nat→Nat} (hf:LinF f) (hg:LinF g):∀ k,(∀ i,i<k→f (2 ^ i)=g (2 ^ i))→∀ n,n<2 ^ k→f n=g n
  | 0, _, n, h => by
    have:n=0:=by simpa using h
    rw[this,hf.zero,hg.zero]
  | k + 1, hb, n, h => by
    by_cases hk:n<2 ^ k
    · exact linF_ext hf hg k (fun i hi=>hb i (by omega)) n hk
    · rw[split_top h hk,hf,hg,hb k (by omega),linF_ext hf hg k (fun i hi=>hb i (by omega)) _ (Nat.mod_lt _ (Nat.two_pow_pos _))]
theorem fR_pow (j b : Nat) : ∀ i, fR (2 ^ j) b i = if i ≤ j then 0 else fI (i - j) b
  |0=>by simp[fR]
  | i + 1 => by
    rw[fR,fR_pow j b i,Nat.testBit_two_pow]
    by_cases e:j=i
    · subst e
      rw[if_pos (by omega),if_neg (by omega),show j+1 - j=1 by omega]
      simp[fI]
    · by_cases h : i ≤ j
      · rw [if_pos h, if_pos (by omega)]
        simp[e];rfl
      · rw [if_neg h, if_neg (by omega), show i + 1 - j = (i - j) + 1 by omega]
        simp[e,fI]
theorem fdot_pow {j b:Nat} (h:j<128):fdot (2 ^ j) b=fI (128 - j) b:=by
  unfold fdot
  rw[fR_pow,if_neg (by omega)]
theorem fI_add (b:Nat) (k:Nat):∀ m,fI m (fI k b)=fI (m+k) b
  |0=>by rw[Nat.zero_add];rfl
  |m+1=>by rw[fI,fI_add b k m,show m+1+k=(m+k)+1 by omega,fI]
theorem fO_I:∀ j:Fin 128,fI (128 - j.1) fO=2 ^ j.1:=by decide+kernel
theorem fO_i {j:Nat} (h:j<128):fI (128 - j) fO=2 ^ j:=fO_I ⟨j,h⟩
theorem fdot_0a (b:Nat):fdot 0 b=0:=(fdot_a b).zero
end Go.Proofs.Ythldpfindbhkeaa

set_option linter.unusedSimpArgs false
set_option linter.unusedVariables false
/-! siv: the program's product is the field's. -/
namespace Go.Proofs.Ythldpfindbhkeaa
open Go.RowKit Go.Ev
def flo (n:Nat):Int:=((n%2 ^ 64:Nat):Int)
def fhi (n:Nat):Int:=((n / 2 ^ 64:Nat):Int)
def nk (f:Nat→Nat):Nat→Nat
  |0=>0
  |k+1=>nk f k+f k*256 ^ k
def nL (L:List Int):Nat:=nk (fun i=>(L.getD i 0).toNat) 16
theorem oI64 (a:Nat) (h:a<2 ^ 64):(BitVec.ofInt 64 (a:Int)).toNat=a:=by
  rw[BitVec.ofInt_natCast,BitVec.toNat_ofNat];exact Nat.mod_eq_of_lt h
theorem x64 (a b:Nat) (ha:a<2 ^ 64) (hb:b<2 ^ 64):bits .xor .u64 (a:Int) (b:Int)=((a ^^^ b:Nat):Int):=by
  have hx:a ^^^ b<2 ^ 64:=Nat.xor_lt_two_pow ha hb
  show IntKind.u64.wrap ((BitVec.ofInt 64 (a:Int) ^^^ BitVec.ofInt 64 (b:Int)).toNat:Int)=_
  rw[BitVec.toNat_xor,oI64 a ha,oI64 b hb,IntKind.wrap_u64];omega
theorem r64 (a b:Nat) (ha:a<2 ^ 64) (hb:b<2 ^ 64):bits .or .u64 (a:Int) (b:Int)=((a ||| b:Nat):Int):=by
  have hx:a ||| b<2 ^ 64:=Nat.or_lt_two_pow ha hb
  show IntKind.u64.wrap ((BitVec.ofInt 64 (a:Int) ||| BitVec.ofInt 64 (b:Int)).toNat:Int)=_
  rw[BitVec.toNat_or,oI64 a ha,oI64 b hb,IntKind.wrap_u64];omega
theorem a64 (a b:Nat) (ha:a<2 ^ 64) (hb:b<2 ^ 64):bits .and .u64 (a:Int) (b:Int)=((a &&& b:Nat):Int):=by
  have hx:a &&& b<2 ^ 64:=Nat.lt_of_le_of_lt Nat.and_le_left ha
  show IntKind.u64.wrap ((BitVec.ofInt 64 (a:Int) &&& BitVec.ofInt 64 (b:Int)).toNat:Int)=_
  rw[BitVec.toNat_and,oI64 a ha,oI64 b hb,IntKind.wrap_u64];omega
theorem or_add2 {a b i:Nat} (h:b<2 ^ i):b ||| (a*2 ^ i)=b+a*2 ^ i:=by
  rw[Nat.or_comm,Nat.mul_comm,← Nat.two_pow_add_eq_or_of_lt h];omega
theorem xor_div (a b k:Nat):(a ^^^ b) / 2 ^ k=(a / 2 ^ k) ^^^ (b / 2 ^ k):=by
  rw[← Nat.shiftRight_eq_div_pow,← Nat.shiftRight_eq_div_pow,← Nat.shiftRight_eq_div_pow,Nat.shiftRight_xor_distrib]
theorem flo_xor (a b:Nat):flo (a ^^^ b)=(((a%2 ^ 64) ^^^ (b%2 ^ 64):Nat):Int):=by rw[flo,Nat.xor_mod_two_pow]
theorem fhi_xor (a b:Nat):fhi (a ^^^ b)=(((a / 2 ^ 64) ^^^ (b / 2 ^ 64):Nat):Int):=by rw[fhi,xor_div]
theorem dvL_eq {n:Nat} (h:n<2 ^ 128):dvL (flo n) (fhi n)=flo (fD n):=by
  have e1:flo n / 2 ^ (1:Nat)=((n%2 ^ 64 / 2:Nat):Int):=by unfold flo;omega
  have e2:IntKind.u64.wrap (fhi n*2 ^ (63:Nat))=((n / 2 ^ 64%2*2 ^ 63:Nat):Int):=by
    unfold fhi;rw[IntKind.wrap_u64];omega
  have e3 : flo (fD n) = ((n / 2 % 2 ^ 64 : Nat) : Int) := by
    unfold fD
    rw[flo_xor,Nat.shiftRight_eq_div_pow]
    cases n.testBit 0
    · simp
    · have : fM % 2 ^ 64 = 0 := by decide
      simp only[cond_true,this,Nat.xor_zero]
  rw[e3]
  show bits .or .u64 (flo n / 2 ^ (1:Nat)) (IntKind.u64.wrap (fhi n*2 ^ (63:Nat)))=_
  rw[e1,e2,r64 _ _ (by omega) (by omega),or_add2 (by omega)]
  congr 1
  omega
theorem msk64_1:bits .and .u64 16212958658533785600 (IntKind.u64.wrap (0 - ((1:Nat):Int)))=((16212958658533785600:Nat):Int):=by decide+kernel
theorem msk64_0:bits .and .u64 16212958658533785600 (IntKind.u64.wrap (0 - ((0:Nat):Int)))=((0:Nat):Int):=by decide+kernel
theorem dvH_eq {n:Nat} (h:n<2 ^ 128):dvH (flo n) (fhi n)=fhi (fD n):=by
  have e1:fhi n / 2 ^ (1:Nat)=((n / 2 ^ 64 / 2:Nat):Int):=by unfold fhi;omega
  have e2:bits .and .u64 (flo n) 1=((n%2:Nat):Int):=by
    unfold flo
    rw[show(1:Int)=((1:Nat):Int) from rfl,a64 _ _ (by omega) (by decide),Nat.and_one_is_mod]
    congr 1
    omega
  have e3 : fhi (fD n) = (((n / 2 ^ 64 / 2) ^^^ (if n % 2 = 1 then 16212958658533785600 else 0) : Nat) : Int) := by
    unfold fD
    rw[fhi_xor,Nat.shiftRight_eq_div_pow]
    have hb:n.testBit 0=decide (n%2=1):=by rw[Nat.testBit_zero]
    rw[hb]
    have e0:n / 2 ^ 1 / 2 ^ 64=n / 2 ^ 64 / 2:=by omega
    by_cases h1:n%2=1
    · have : fM / 2 ^ 64 = 16212958658533785600 := by decide
      rw[decide_eq_true h1,cond_true,this,if_pos h1,e0]
    · rw[decide_eq_false h1,cond_false,Nat.zero_div,if_neg h1,e0]
  rw[e3]
  show bits .xor .u64 (fhi n / 2 ^ (1:Nat)) (bits .and .u64 16212958658533785600 (IntKind.u64.wrap (0 - bits .and .u64 (flo n) 1)))=_
  rw[e1,e2]
  by_cases h1:n%2=1
  · rw[if_pos h1,h1,msk64_1,x64 _ _ (by omega) (by decide)]
  · rw[if_neg h1,show n%2=0 by omega,msk64_0,x64 _ _ (by omega) (by decide)]
theorem nk_lt {f:Nat→Nat} (h:∀ i,f i<256):∀ k,nk f k<256 ^ k
  |0=>by simp[nk]
  | k + 1 => by
    have h1:=nk_lt h k
    have h2:f k*256 ^ k≤255*256 ^ k:=Nat.mul_le_mul_right _ (by have:=h k;omega)
    rw[nk,Nat.pow_succ]
    omega
theorem nk_dig {f : Nat → Nat} (h : ∀ i, f i < 256) : ∀ {k i}, i < k → nk f k / 256 ^ i % 256 = f i
  | k + 1, i, hi => by
    have h1:=nk_lt h k
    rw[nk]
    by_cases e:i=k
    · subst e
      rw[Nat.add_mul_div_right _ _ (Nat.pow_pos (by decide)),Nat.div_eq_of_lt h1,Nat.zero_add]
      exact Nat.mod_eq_of_lt (h i)
    · have hik : i < k := by omega
      obtain⟨m,rfl⟩:∃ m,k=i+1+m:=⟨k - i - 1,by omega⟩
      have e2:f (i+1+m)*256 ^ (i+1+m)=f (i+1+m)*256 ^ m*256*256 ^ i:=by
        rw[Nat.pow_add,Nat.pow_add,Nat.pow_one];ac_rfl
      rw[e2,Nat.add_mul_div_right _ _ (Nat.pow_pos (by decide)),Nat.add_mul_mod_self_right]
      exact nk_dig h hik
theorem nk_cong {f g:Nat→Nat}:∀ k,(∀ i,i<k→f i=g i)→nk f k=nk g k
  |0,_=>rfl
  |k+1,h=>by rw[nk,nk,nk_cong k (fun i hi=>h i (by omega)),h k (by omega)]
theorem nk_app (f:Nat→Nat) (m:Nat):∀ k,nk f (m+k)=nk f m+256 ^ m*nk (fun i=>f (m+i)) k
  |0=>by simp[nk]
  | k + 1 => by
    rw[show m+(k+1)=(m+k)+1 by omega,nk,nk_app f m k,nk,Nat.pow_add,Nat.mul_add]
    have:f (m+k)*(256 ^ m*256 ^ k)=256 ^ m*(f (m+k)*256 ^ k):=by ac_rfl
    omega
theorem byNq {L:List Int} (h:By L) (i:Nat):L.getD i 0=(((L.getD i 0).toNat:Nat):Int)∧(L.getD i 0).toNat<256:=by
  have:=h i
  omega
theorem nL_lt {L:List Int} (h:By L):nL L<2 ^ 128:=by
  have:=nk_lt (f:=fun i=>(L.getD i 0).toNat) (fun i=>(byNq h i).2) 16
  exact this
theorem or8_nk {f:Nat→Int} {g:Nat→Nat} (h:∀ i,f i=((g i:Nat):Int)) (hg:∀ i,g i<256):∀ k,k≤8→or8 f k=((nk g k:Nat):Int)
  |0,_=>rfl
  | k + 1, hk => by
    have h1:=nk_lt hg k
    have e256:(256:Nat) ^ k=2 ^ (8*k):=by rw[Nat.pow_mul]
    have hp:(2:Nat) ^ (8*k)≤2 ^ 56:=Nat.pow_le_pow_right (by decide) (by omega)
    have hgk:=hg k
    have hm:g k*2 ^ (8*k)<2 ^ 64:=by
      have:=Nat.mul_le_mul (show g k≤255 by omega) hp
      omega
    have ew:IntKind.u64.wrap (IntKind.u64.wrap (f k)*2 ^ (8*k))=((g k*2 ^ (8*k):Nat):Int):=by
      have e1:((g k:Nat):Int)%18446744073709551616=((g k:Nat):Int):=by omega
      have e2:(2:Int) ^ (8*k)=((2 ^ (8*k):Nat):Int):=by simp
      rw[h k,IntKind.wrap_u64,IntKind.wrap_u64,e1,e2,← Int.natCast_mul]
      generalize g k*2 ^ (8*k)=z at hm ⊢
      omega
    rw[or8,or8_nk h hg k (by omega),ew,r64 _ _ (by omega) hm,or_add2 (by omega),nk,e256]
theorem nL_split (L:List Int):nL L=nk (fun i=>(L.getD i 0).toNat) 8+2 ^ 64*nk (fun i=>(L.getD (8+i) 0).toNat) 8:=nk_app _ 8 8
theorem wlo_eq {L:List Int} (h:By L):wlo L=flo (nL L):=by
  have h1:=nk_lt (f:=fun i=>(L.getD i 0).toNat) (fun i=>(byNq h i).2) 8
  have e:wlo L=((nk (fun i=>(L.getD i 0).toNat) 8:Nat):Int):=or8_nk (fun i=>(byNq h i).1) (fun i=>(byNq h i).2) 8 (Nat.le_refl _)
  rw[e,flo,nL_split]
  have:(256:Nat) ^ 8=2 ^ 64:=by decide
  rw[this] at h1
  generalize nk (fun i=>(L.getD i 0).toNat) 8=x at h1 ⊢
  generalize nk (fun i=>(L.getD (8+i) 0).toNat) 8=y
  omega
theorem whi_eq {L:List Int} (h:By L):whi L=fhi (nL L):=by
  have h1:=nk_lt (f:=fun i=>(L.getD i 0).toNat) (fun i=>(byNq h i).2) 8
  have e:whi L=((nk (fun i=>(L.getD (8+i) 0).toNat) 8:Nat):Int):=or8_nk (fun i=>(byNq h (8+i)).1) (fun i=>(byNq h (8+i)).2) 8 (Nat.le_refl _)
  rw[e,fhi,nL_split]
  have:(256:Nat) ^ 8=2 ^ 64:=by decide
  rw[this] at h1
  generalize nk (fun i=>(L.getD i 0).toNat) 8=x at h1 ⊢
  generalize nk (fun i=>(L.getD (8+i) 0).toNat) 8=y
  omega
theorem and1 (z:Nat) (h:z<256):bits .and .u8 (z:Int) 1=((z%2:Nat):Int):=by
  have h':∀ z:Fin 256,bits .and .u8 ((z.1:Nat):Int) 1=((z.1%2:Nat):Int):=by decide+kernel
  exact h' ⟨z,h⟩
theorem nL_bit {L:List Int} (h:By L) {i:Nat} (hi:i<128):(nL L).testBit i=decide ((L.getD (i / 8) 0).toNat / 2 ^ (i%8)%2=1):=by
  have hd:=nk_dig (f:=fun i=>(L.getD i 0).toNat) (fun i=>(byNq h i).2) (k:=16) (i:=i / 8) (by omega)
  rw[Nat.testBit_eq_decide_div_mod_eq]
  have e1:(2:Nat) ^ i=256 ^ (i / 8)*2 ^ (i%8):=by
    rw[show(256:Nat)=2 ^ 8 from rfl,← Nat.pow_mul,← Nat.pow_add]
    congr 1;omega
  rw[e1,← Nat.div_div_eq_div_mul,← hd]
  show decide (nL L / 256 ^ (i / 8) / 2 ^ (i%8)%2=1)=decide (nL L / 256 ^ (i / 8)%256 / 2 ^ (i%8)%2=1)
  generalize nL L / 256 ^ (i / 8)=z
  have hr:i%8<8:=Nat.mod_lt _ (by decide)
  generalize i%8=r at hr
  have key : z % 256 / 2 ^ r % 2 = z / 2 ^ r % 2 := by
    have h2:(z%2 ^ 8).testBit r=z.testBit r:=by rw[Nat.testBit_mod_two_pow];simp[hr]
    rw[Nat.testBit_eq_decide_div_mod_eq,Nat.testBit_eq_decide_div_mod_eq] at h2
    have h3:=decide_eq_decide.1 h2
    have a1:=Nat.mod_lt (z%2 ^ 8 / 2 ^ r) (show 0<2 by decide)
    have a2:=Nat.mod_lt (z / 2 ^ r) (show 0<2 by decide)
    show z%2 ^ 8 / 2 ^ r%2=_
    by_cases h4:z / 2 ^ r%2=1
    · rw[h4];exact h3.2 h4
    · have : ¬ z % 2 ^ 8 / 2 ^ r % 2 = 1 := fun h5 => h4 (h3.1 h5)
      omega
  rw[key]
theorem dbit_eq {L:List Int} (h:By L) {i:Nat} (hi:i<128):dbit L i=((bif (nL L).testBit i then 18446744073709551615 else 0:Nat):Int):=by
  obtain⟨e,hb⟩:=byNq h (i / 8)
  have hr:i%8<8:=Nat.mod_lt _ (by decide)
  have e1:L.getD (i / 8) 0 / 2 ^ (min (Int.toNat ((i%8:Nat):Int)) 8)=(((L.getD (i / 8) 0).toNat / 2 ^ (i%8):Nat):Int):=by
    rw[Int.toNat_natCast,Nat.min_eq_left (by omega)]
    generalize(L.getD (i / 8) 0).toNat=b at e
    rw[e]
    have:(2:Int) ^ (i%8)=((2 ^ (i%8):Nat):Int):=by simp
    rw[this];rfl
  have hz:(L.getD (i / 8) 0).toNat / 2 ^ (i%8)<256:=Nat.lt_of_le_of_lt (Nat.div_le_self _ _) hb
  unfold dbit
  rw[e1,and1 _ hz,nL_bit h hi]
  have h2:=Nat.mod_lt ((L.getD (i / 8) 0).toNat / 2 ^ (i%8)) (show 0<2 by decide)
  generalize(L.getD (i / 8) 0).toNat / 2 ^ (i%8)%2=y at h2
  by_cases h3:y=1
  · subst h3;decide+kernel
  · rw[show y=0 by omega];decide+kernel
theorem sel64 (m:Nat) (b:Bool) (hm:m<2 ^ 64):bits .and .u64 (m:Int) ((bif b then 18446744073709551615 else 0:Nat):Int)=((bif b then m else 0:Nat):Int):=by
  cases b
  · rw[cond_false,cond_false,a64 _ _ hm (by decide),Nat.and_zero]
  · rw[cond_true,cond_true,a64 _ _ hm (by decide),show(18446744073709551615:Nat)=2 ^ 64 - 1 from rfl,Nat.and_two_pow_sub_one_eq_mod,Nat.mod_eq_of_lt hm]
theorem sel_mod (b:Bool) (m k:Nat):(bif b then m else 0)%k=bif b then m%k else 0:=by cases b<;>simp
theorem sel_div (b:Bool) (m k:Nat):(bif b then m else 0) / k=bif b then m / k else 0:=by cases b<;>simp
theorem dsX_lo {L:List Int} (h:By L) {i:Nat} (hi:i<128) (m r:Nat):dsX (flo m) (flo r) L i=flo (r ^^^ (bif (nL L).testBit i then m else 0)):=by
  unfold dsX
  rw[dbit_eq h hi]
  rw[show flo m=((m%2 ^ 64:Nat):Int) from rfl,sel64 _ _ (by omega),show flo r=((r%2 ^ 64:Nat):Int) from rfl,x64 _ _ (by omega) (by cases(nL L).testBit i<;>simp<;>omega),flo_xor,sel_mod]
theorem dsX_hi {L:List Int} (h:By L) {i:Nat} (hi:i<128) (m r:Nat) (hm:m<2 ^ 128) (hr:r<2 ^ 128):dsX (fhi m) (fhi r) L i=fhi (r ^^^ (bif (nL L).testBit i then m else 0)):=by
  unfold dsX
  rw[dbit_eq h hi]
  rw[show fhi m=((m / 2 ^ 64:Nat):Int) from rfl,sel64 _ _ (by omega),show fhi r=((r / 2 ^ 64:Nat):Int) from rfl,x64 _ _ (by omega) (by cases(nL L).testBit i<;>simp<;>omega),fhi_xor,sel_div]
theorem sel_lt (b:Bool) {m:Nat} (hm:m<2 ^ 128):(bif b then m else 0)<2 ^ 128:=by
  cases b
  · exact Nat.two_pow_pos _
  · exact hm
theorem ds_L {L Y:List Int} (hL:By L) (hY:By Y) {i r:Nat} (hi:i<128) (hr:r<2 ^ 128):dsL L (wlo Y) (whi Y) (flo r) (fhi r) i=flo (fD (r ^^^ (bif (nL L).testBit i then nL Y else 0))):=by
  have hx:=Nat.xor_lt_two_pow hr (sel_lt ((nL L).testBit i) (nL_lt hY))
  unfold dsL
  rw[wlo_eq hY,whi_eq hY,dsX_lo hL hi,dsX_hi hL hi _ _ (nL_lt hY) hr]
  exact dvL_eq hx
theorem ds_H {L Y:List Int} (hL:By L) (hY:By Y) {i r:Nat} (hi:i<128) (hr:r<2 ^ 128):dsH L (wlo Y) (whi Y) (flo r) (fhi r) i=fhi (fD (r ^^^ (bif (nL L).testBit i then nL Y else 0))):=by
  have hx:=Nat.xor_lt_two_pow hr (sel_lt ((nL L).testBit i) (nL_lt hY))
  unfold dsH
  rw[wlo_eq hY,whi_eq hY,dsX_lo hL hi,dsX_hi hL hi _ _ (nL_lt hY) hr]
  exact dvH_eq hx
theorem dit_step {L Y:List Int} (hL:By L) (hY:By Y) {i:Nat} (hi:i<128) (h:dit L Y i=(flo (fR (nL L) (nL Y) i),fhi (fR (nL L) (nL Y) i))):dit L Y (i+1)=(flo (fR (nL L) (nL Y) (i+1)),fhi (fR (nL L) (nL Y) (i+1))):=by
  have hr:=fR_lt (a:=nL L) (nL_lt hY) i
  have e:∀ z:Int×Int,z=(flo (fR (nL L) (nL Y) i),fhi (fR (nL L) (nL Y) i))→(dsL L (wlo Y) (whi Y) z.1 z.2 i,dsH L (wlo Y) (whi Y) z.1 z.2 i)=(flo (fR (nL L) (nL Y) (i+1)),fhi (fR (nL L) (nL Y) (i+1))):=fun z hz=>by
    subst hz
    exact Prod.ext (ds_L hL hY hi hr) (ds_H hL hY hi hr)
  exact e _ h
theorem dit_eq {L Y:List Int} (hL:By L) (hY:By Y) (i:Nat):i≤128→dit L Y i=(flo (fR (nL L) (nL Y) i),fhi (fR (nL L) (nL Y) i)):=by
  induction i with
  |zero=>intro _;simp[dit,fR,flo,fhi]
  |succ i ih=>exact fun h=>dit_step hL hY h (ih (Nat.le_of_lt h))
def eL (n:Nat):List Int:=jnL (flo n) (fhi n)
theorem dotL_eq {L Y:List Int} (hL:By L) (hY:By Y):dotL L Y=eL (fdot (nL L) (nL Y)):=by
  unfold dotL
  rw[dit_eq hL hY 128 (Nat.le_refl _)]
  rfl
theorem jb_nat (x k:Nat):jb (x:Int) k=((x / 2 ^ k%256:Nat):Int):=by
  unfold jb
  have:(2:Int) ^ k=((2 ^ k:Nat):Int):=by simp
  rw[this,IntKind.wrap_u8]
  omega
theorem eL_at (n:Nat) {i:Nat} (hi:i<16):(eL n).getD i 0=((n / 256 ^ i%256:Nat):Int):=by
  unfold eL jnL
  rw[ofFn_at hi]
  have e256:(256:Nat) ^ i=2 ^ (8*i):=by rw[Nat.pow_mul]
  rw[e256]
  by_cases h:i<8
  · rw [if_pos h, flo, jb_nat]
    congr 1
    have e1:n%2 ^ 64 / 2 ^ (8*i)%2 ^ 8=n / 2 ^ (8*i)%2 ^ 8:=by
      apply Nat.eq_of_testBit_eq
      intro k
      rw[Nat.testBit_mod_two_pow,Nat.testBit_mod_two_pow,Nat.testBit_div_two_pow,Nat.testBit_div_two_pow,Nat.testBit_mod_two_pow]
      by_cases hk:k<8
      · simp[hk,show k+8*i<64 by omega]
      · simp[hk]
    exact e1
  · rw[if_neg h,fhi,jb_nat,Nat.div_div_eq_div_mul,← Nat.pow_add,show 64+8*(i - 8)=8*i by omega]
theorem nL_of {L Y:List Int} (h:∀ i,i<16→L.getD i 0=Y.getD i 0):nL L=nL Y:=nk_cong 16 fun i hi=>by rw[h i hi]
end Go.Proofs.Ythldpfindbhkeaa

set_option linter.unusedSimpArgs false
set_option linter.unusedVariables false
/-! siv: polynomials as rows of bits; the document's product is the field's. -/
namespace Go.Proofs.Ythldpfindbhkeaa
open Go.RowKit Go.Ev
def bti (n i:Nat):Int:=bif n.testBit i then 1 else 0
def pL (n:Nat):List Int:=(List.range 128).map fun i=>bti n i
def pW (n:Nat):List Int:=(List.range 255).map fun i=>bti n i
theorem pL_at {n i:Nat} (h:i<128):(pL n).getD i 0=bti n i:=ofFn_at h
theorem pW_at {n i:Nat} (h:i<255):(pW n).getD i 0=bti n i:=ofFn_at h
theorem pW_0:wA .i64 255 []=wA .i64 255 (pW 0):=wA_ext (wA_size _ _ _) fun i hi=>by rw[wA_at hi,pW_at hi];simp[bti]
theorem pL_put {z z' p q:Nat} {V:Int} (hp:p<128) (e:q=p) (h:∀ k,k<128→bti z' k=if k=p then V else bti z k):q<(wA .i64 128 (pL z)).size∧(wA .i64 128 (pL z)).setIfInBounds q (.int .i64 V)=wA .i64 128 (pL z'):=by
  refine⟨by rw[wA_size];omega,?_⟩
  rw[wA_putE hp e]
  exact wA_ext (wA_size _ _ _) fun i hi=>by
    rw[wA_at hi,lset_at hi,pL_at hi,pL_at hi,h i hi]
theorem pW_put {z z' p q:Nat} {V:Int} (hp:p<255) (e:q=p) (h:∀ k,k<255→bti z' k=if k=p then V else bti z k):q<(wA .i64 255 (pW z)).size∧(wA .i64 255 (pW z)).setIfInBounds q (.int .i64 V)=wA .i64 255 (pW z'):=by
  refine⟨by rw[wA_size];omega,?_⟩
  rw[wA_putE hp e]
  exact wA_ext (wA_size _ _ _) fun i hi=>by
    rw[wA_at hi,lset_at hi,pW_at hi,pW_at hi,h i hi]
theorem xbt (x i y j:Nat):bits .xor .i64 (bti x i) (bti y j)=bif (x.testBit i ^^ y.testBit j) then 1 else 0:=by
  unfold bti
  cases x.testBit i<;>cases y.testBit j<;>decide+kernel
theorem xb1 (x i:Nat):bits .xor .i64 (bti x i) 1=bif !x.testBit i then 1 else 0:=by
  unfold bti
  cases x.testBit i<;>decide+kernel
theorem bt_flip (z p:Nat) {V:Int} (hV:V=bif !z.testBit p then 1 else 0) (k:Nat):bti (z ^^^ 2 ^ p) k=if k=p then V else bti z k:=by
  unfold bti
  rw[Nat.testBit_xor,Nat.testBit_two_pow]
  by_cases e:k=p
  · subst e
    rw[if_pos rfl,hV]
    simp
  · rw [if_neg e]
    have:decide (p=k)=false:=decide_eq_false (fun h=>e h.symm)
    rw[this];simp
theorem bt_mod (n i:Nat) {V:Int} (hV:V=bti n i) (k:Nat):bti (n%2 ^ (i+1)) k=if k=i then V else bti (n%2 ^ i) k:=by
  unfold bti at*
  rw[Nat.testBit_mod_two_pow,Nat.testBit_mod_two_pow]
  by_cases e:k=i
  · subst e
    rw[if_pos rfl,hV]
    simp
  · rw [if_neg e]
    by_cases h:k<i
    · simp[h,show k<i+1 by omega]
    · simp[h,show ¬ k<i+1 by omega]
def zm (n:Nat):Nat→Nat
  |0=>0
  |i+1=>n%2 ^ (i+1)
theorem zm_eq (n:Nat):∀ i,zm n i=n%2 ^ i
  |0=>(Nat.mod_one n).symm
  |i+1=>rfl
theorem bt_zm (n i:Nat) {V:Int} (hV:V=bti n i) (k:Nat):bti (zm n (i+1)) k=if k=i then V else bti (zm n i) k:=by
  rw[zm_eq,zm_eq]
  exact bt_mod n i hV k
theorem tb_of {b:Bool} (h:¬ b=false):b=true:=by
  cases b
  · exact absurd rfl h
  · rfl
theorem fb_of {b:Bool} (h:¬ b=true):b=false:=by
  cases b
  · rfl
  · exact absurd rfl h
theorem pL_mod {n:Nat}:pL (n%2 ^ 128)=pL n:=List.map_congr_left fun i hi=>by
  have hi:i<128:=by simpa using hi
  unfold bti
  rw[Nat.testBit_mod_two_pow];simp[hi]
theorem bt_sh (n k:Nat):bti (n / 2) k=bti n (k+1):=by
  unfold bti
  rw[show n / 2=n / 2 ^ 1 from rfl,Nat.testBit_div_two_pow]
def cm (a b:Nat):Nat→Nat
  |0=>0
  |i+1=>cm a b i ^^^ (bif a.testBit i then b <<< i else 0)
theorem bt_part (m b i k:Nat) {V:Int} (hV:V=bif ((m ^^^ ((b%2 ^ k) <<< i)).testBit (i+k) ^^ b.testBit k) then 1 else 0) (q:Nat):bti (m ^^^ ((b%2 ^ (k+1)) <<< i)) q=if q=i+k then V else bti (m ^^^ ((b%2 ^ k) <<< i)) q:=by
  unfold bti
  rw[hV]
  simp only[Nat.testBit_xor,Nat.testBit_shiftLeft,Nat.testBit_mod_two_pow]
  by_cases e:q=i+k
  · subst e
    rw[if_pos rfl]
    have h1:i+k - i=k:=by omega
    simp[h1]
  · rw [if_neg e]
    by_cases h:i≤q
    · by_cases h2 : q - i < k
      · simp[h,h2,show q - i<k+1 by omega]
      · simp[h,h2,show ¬ q - i<k+1 by omega]
    · simp[h]
def rc (d:Nat):Nat:=2 ^ (254 - d) ^^^ 2 ^ (254 - d - 1) ^^^ 2 ^ (254 - d - 2) ^^^ 2 ^ (254 - d - 7) ^^^ 2 ^ (254 - d - 128)
theorem rc_chain (m d:Nat):((((m ^^^ 2 ^ (254 - d)) ^^^ 2 ^ (254 - d - 1)) ^^^ 2 ^ (254 - d - 2)) ^^^ 2 ^ (254 - d - 7)) ^^^ 2 ^ (254 - d - 128)=m ^^^ rc d:=by
  unfold rc
  generalize 2 ^ (254 - d)=a
  generalize 2 ^ (254 - d - 1)=b
  generalize 2 ^ (254 - d - 2)=c
  generalize 2 ^ (254 - d - 7)=e
  generalize 2 ^ (254 - d - 128)=g
  rw[Nat.xor_assoc,Nat.xor_assoc,Nat.xor_assoc,Nat.xor_assoc,Nat.xor_assoc a,Nat.xor_assoc a,Nat.xor_assoc a,Nat.xor_assoc b,Nat.xor_assoc b,Nat.xor_assoc c]
def rd (m:Nat):Nat→Nat
  |0=>m
  |d+1=>rd m d ^^^ (bif (rd m d).testBit (254 - d) then rc d else 0)
theorem rdF_lin:∀ d,LinF (fun m=>rd m d)
  |0=>fun _ _=>rfl
  | d + 1 => fun x y => by
    show rd (x ^^^ y) d ^^^ _=(rd x d ^^^ _) ^^^ (rd y d ^^^ _)
    rw[show rd (x ^^^ y) d=_ from rdF_lin d x y,Nat.testBit_xor,sel_xor,xor4]
theorem cm_a (a a' b:Nat):∀ i,cm (a ^^^ a') b i=cm a b i ^^^ cm a' b i
  |0=>(Nat.xor_self 0).symm
  |i+1=>by rw[cm,cm,cm,cm_a a a' b i,Nat.testBit_xor,sel_xor,xor4]
theorem cm_b (a b b':Nat):∀ i,cm a (b ^^^ b') i=cm a b i ^^^ cm a b' i
  |0=>(Nat.xor_self 0).symm
  |i+1=>by rw[cm,cm,cm,cm_b a b b' i,Nat.shiftLeft_xor_distrib,sel_lin,xor4]
def tmN (a b:Nat):Nat:=rd (cm a b 128) 127%2 ^ 128
theorem tmN_lt (a b:Nat):tmN a b<2 ^ 128:=Nat.mod_lt _ (Nat.two_pow_pos _)
theorem cm_pow (j b:Nat):∀ i,cm (2 ^ j) b i=if i≤j then 0 else b <<< j
  |0=>by simp[cm]
  | i + 1 => by
    rw[cm,cm_pow j b i,Nat.testBit_two_pow]
    by_cases e:j=i
    · subst e
      rw[if_pos (by omega),if_neg (by omega)]
      simp
    · have : decide (j = i) = false := decide_eq_false e
      rw[this]
      by_cases h:i≤j
      · rw[if_pos h,if_pos (by omega)];simp
      · rw[if_neg h,if_neg (by omega)];simp
set_option maxRecDepth 100000 in
theorem rd_all:∀ k:Fin 255,fI 128 (rd (2 ^ k.1) 127%2 ^ 128)=fI (256 - k.1) fO:=by decide+kernel
theorem tm_dot {a b:Nat} (ha:a<2 ^ 128) (hb:b<2 ^ 128):fI 128 (tmN a b)=fdot a b:=by
  have la:∀ b,LinF (fun a=>fI 128 (tmN a b)):=fun b x y=>by
    show fI 128 (rd (cm (x ^^^ y) b 128) 127%2 ^ 128)=_
    rw[cm_a,show rd (cm x b 128 ^^^ cm y b 128) 127=_ from rdF_lin 127 _ _,Nat.xor_mod_two_pow,fI_lin]
    rfl
  have lb:∀ a,LinF (fun b=>fI 128 (tmN a b)):=fun a x y=>by
    show fI 128 (rd (cm a (x ^^^ y) 128) 127%2 ^ 128)=_
    rw[cm_b,show rd (cm a x 128 ^^^ cm a y 128) 127=_ from rdF_lin 127 _ _,Nat.xor_mod_two_pow,fI_lin]
    rfl
  refine linF_ext (f:=fun a=>fI 128 (tmN a b)) (g:=fun a=>fdot a b) (la b) (fdot_a b) 128 (fun i hi=> ?_) a ha
  refine linF_ext (f:=fun b=>fI 128 (tmN (2 ^ i) b)) (g:=fun b=>fdot (2 ^ i) b) (lb _) (fdot_b _) 128 (fun j hj=> ?_) b hb
  show fI 128 (rd (cm (2 ^ i) (2 ^ j) 128) 127%2 ^ 128)=fdot (2 ^ i) (2 ^ j)
  rw[cm_pow,if_neg (by omega),Nat.shiftLeft_eq,← Nat.pow_add,fdot_pow hi,← fO_i hj,fI_add]
  have:=rd_all ⟨j+i,by omega⟩
  simp only at this
  rw[this,show 128 - i+(128 - j)=256 - (j+i) by omega]
def dPn (f:Nat→Int):Nat→Nat
  |0=>0
  |k+1=>dPn f k+(if f k=1 then 2 ^ k else 0)
def dP (a:Array Value):Nat:=dPn (fun i=>intOf (a.getD i undef)) 128
theorem dPn_mod (n:Nat):∀ k,dPn (fun i=>bti n i) k=n%2 ^ k
  |0=>(Nat.mod_one n).symm
  | k + 1 => by
    rw[dPn,dPn_mod n k,Nat.mod_pow_succ]
    congr 1
    unfold bti
    rw[Nat.testBit_eq_decide_div_mod_eq]
    have h:=Nat.mod_lt (n / 2 ^ k) (show 0<2 by decide)
    by_cases e:n / 2 ^ k%2=1
    · rw[e];simp
    · rw[show n / 2 ^ k%2=0 by omega];simp
theorem dPn_cong {f g:Nat→Int}:∀ k,(∀ i,i<k→f i=g i)→dPn f k=dPn g k
  |0,_=>rfl
  |k+1,h=>by rw[dPn,dPn,dPn_cong k (fun i hi=>h i (by omega)),h k (by omega)]
theorem dP_pL {n:Nat} (h:n<2 ^ 128):dP (wA .i64 128 (pL n))=n:=by
  unfold dP
  rw[dPn_cong (g:=fun i=>bti n i) 128 (fun i hi=>by rw[Array.getD_eq_getD_getElem?,wA_at hi,pL_at hi];rfl),dPn_mod]
  exact Nat.mod_eq_of_lt h
def bB (n l:Nat):List Int:=(List.range 16).map fun q=>((n / 2 ^ (max l (8*q))%2 ^ (8*q+8 - max l (8*q)):Nat):Int)
theorem bB_0 (n:Nat) (h:n<2 ^ 128):wA .u8 16 []=wA .u8 16 (bB n 128):=wA_ext (wA_size _ _ _) fun q hq=>by
  unfold bB
  rw[wA_at hq,ofFn_at hq,show 8*q+8 - max 128 (8*q)=0 by omega,Nat.pow_zero,Nat.mod_one]
  simp
theorem bB_end (n:Nat):wA .u8 16 (bB n 0)=wA .u8 16 (eL n):=wA_ext (wA_size _ _ _) fun q hq=>by
  rw[wA_at hq,eL_at n hq]
  unfold bB
  rw[ofFn_at hq,show max 0 (8*q)=8*q by omega,show 8*q+8 - 8*q=8 by omega,show(256:Nat) ^ q=2 ^ (8*q) by rw[Nat.pow_mul]]
theorem bB_at {n l q:Nat} (hq:q<16):(bB n l).getD q 0=((n / 2 ^ (max l (8*q))%2 ^ (8*q+8 - max l (8*q)):Nat):Int):=ofFn_at hq
theorem bB_val (n l:Nat) (hl:l<128):IntKind.u8.wrap (IntKind.u8.wrap (2*(bB n (l+1)).getD (l / 8) 0)+IntKind.u8.wrap (bti n l))=(bB n l).getD (l / 8) 0:=by
  rw[bB_at (by omega),bB_at (by omega)]
  have e1:max (l+1) (8*(l / 8))=l+1:=by omega
  have e2:max l (8*(l / 8))=l:=by omega
  obtain⟨t,ht⟩:∃ t,8*(l / 8)+8 - l=t+1:=⟨8*(l / 8)+7 - l,by omega⟩
  have ht7:t≤7:=by omega
  rw[e1,e2,ht,show 8*(l / 8)+8 - (l+1)=t by omega]
  have e3:n / 2 ^ l%2 ^ (t+1)=n / 2 ^ l%2+2*(n / 2 ^ (l+1)%2 ^ t):=by
    rw[Nat.pow_succ,Nat.mul_comm,Nat.mod_mul,Nat.div_div_eq_div_mul,← Nat.pow_succ]
  have e4:bti n l=((n / 2 ^ l%2:Nat):Int):=by
    unfold bti
    rw[Nat.testBit_eq_decide_div_mod_eq]
    have h:=Nat.mod_lt (n / 2 ^ l) (show 0<2 by decide)
    by_cases e:n / 2 ^ l%2=1
    · rw[e];rfl
    · rw[show n / 2 ^ l%2=0 by omega];rfl
  rw[e3,e4]
  have h1:n / 2 ^ (l+1)%2 ^ t<2 ^ t:=Nat.mod_lt _ (Nat.two_pow_pos _)
  have h2:(2:Nat) ^ t≤2 ^ 7:=Nat.pow_le_pow_right (by decide) ht7
  have h3:=Nat.mod_lt (n / 2 ^ l) (show 0<2 by decide)
  generalize n / 2 ^ (l+1)%2 ^ t=x at h1
  generalize n / 2 ^ l%2=y at h3
  rw[IntKind.wrap_u8,IntKind.wrap_u8,IntKind.wrap_u8]
  omega
theorem bB_put {n l p:Nat} {V:Int} (hl:l<128) (e:p=l / 8) (hV:V=(bB n l).getD (l / 8) 0):p<(wA .u8 16 (bB n (l+1))).size∧(wA .u8 16 (bB n (l+1))).setIfInBounds p (.int .u8 V)=wA .u8 16 (bB n l):=by
  refine⟨by rw[wA_size];omega,?_⟩
  rw[wA_putE (p:=l / 8) (by omega) e]
  refine wA_ext (wA_size _ _ _) fun q hq=> ?_
  rw[wA_at hq,lset_at hq]
  by_cases h:q=l / 8
  · rw[if_pos h,hV,h]
  · rw [if_neg h, bB_at hq, bB_at hq]
    congr 2
    by_cases h2:l+1≤8*q
    · rw[show max (l+1) (8*q)=8*q by omega,show max l (8*q)=8*q by omega]
    · rw[show 8*q+8 - max (l+1) (8*q)=0 by omega,show 8*q+8 - max l (8*q)=0 by omega,Nat.pow_zero,Nat.mod_one,Nat.mod_one]
theorem bB_put2 {n d p:Nat} (hd:d<128) (e:p=(127 - d) / 8):p<(wA .u8 16 (bB n (128 - d))).size∧(wA .u8 16 (bB n (128 - d))).setIfInBounds p (.int .u8 (IntKind.u8.wrap (IntKind.u8.wrap (2*(bB n (128 - d)).getD ((127 - d) / 8) 0)+IntKind.u8.wrap (bti n (127 - d)))))=wA .u8 16 (bB n (128 - (d+1))):=by
  have h:=bB_put (n:=n) (l:=127 - d) (by omega) e (bB_val n (127 - d) (by omega))
  rw[show 128 - (d+1)=127 - d by omega,show 128 - d=127 - d+1 by omega]
  exact h
def bBd (n:Nat):Nat→List Int
  |0=> []
  |d+1=>bB n (128 - (d+1))
theorem bBd_eq {n:Nat} (hn:n<2 ^ 128):∀ d,wA .u8 16 (bBd n d)=wA .u8 16 (bB n (128 - d))∧∀ q,q<16→(bBd n d).getD q 0=(bB n (128 - d)).getD q 0
  | 0 => by
    have h:=bB_0 n hn
    refine⟨h,fun q hq=> ?_⟩
    have h2:=congrArg (fun a=>a[q]?) h
    simp only[wA_at hq,Option.some.injEq,Value.int.injEq,true_and] at h2
    exact h2
  |d+1=>⟨rfl,fun _ _=>rfl⟩
theorem bB_put3 {n d p:Nat} (hn:n<2 ^ 128) (hd:d<128) (e:p=(127 - d) / 8):p<(wA .u8 16 (bBd n d)).size∧(wA .u8 16 (bBd n d)).setIfInBounds p (.int .u8 (IntKind.u8.wrap (IntKind.u8.wrap (2*(bBd n d).getD ((127 - d) / 8) 0)+IntKind.u8.wrap (bti n (127 - d)))))=wA .u8 16 (bBd n (d+1)):=by
  rw[(bBd_eq hn d).1,(bBd_eq hn d).2 _ (by omega)]
  exact bB_put2 hd e
theorem fD_chain (p:Nat) (h:p<2 ^ 128):fD p=bif p.testBit 0 then(((p / 2 ^^^ 2 ^ 127) ^^^ 2 ^ 126) ^^^ 2 ^ 125) ^^^ 2 ^ 120 else p / 2:=by
  unfold fD
  rw[Nat.shiftRight_eq_div_pow,Nat.pow_one]
  cases p.testBit 0
  · simp
  · have : fM = 2 ^ 127 ^^^ (2 ^ 126 ^^^ (2 ^ 125 ^^^ 2 ^ 120)) := by decide
    rw[cond_true,cond_true,this]
    ac_rfl
end Go.Proofs.Ythldpfindbhkeaa
