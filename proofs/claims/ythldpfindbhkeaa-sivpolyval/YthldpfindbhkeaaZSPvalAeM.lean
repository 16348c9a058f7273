import Derived.Test.YthldpfindbhkeaaZSPvalAeA
set_option linter.unusedSimpArgs false
set_option linter.unusedVariables false
/-! aes: the field of 256 elements. -/
namespace Go.Proofs.Ythldpfindbhkeaa
open Go.RowKit Go.Ev
def twN (a:Nat):Nat:=(a <<< 1) ^^^ (bif a.testBit 7 then 283 else 0)
def mB:Nat→Nat→Nat→Nat
  |0,_,_=>0
  |f+1,a,b=>(bif b.testBit 0 then a else 0) ^^^ mB f (twN a) (b >>> 1)
def mu (a b:Nat):Nat:=mB 8 a b
def Lin (f:Nat→Nat):Prop:=∀ x y,f (x ^^^ y)=f x ^^^ f y
theorem x4 (a b c d:Nat):(a ^^^ b) ^^^ (c ^^^ d)=(a ^^^ c) ^^^ (b ^^^ d):=by
  rw[Nat.xor_assoc,Nat.xor_assoc,← Nat.xor_assoc b c d,Nat.xor_comm b c,Nat.xor_assoc c b d]
theorem cond_x (x y:Bool) (u:Nat):(bif x ^^ y then u else 0)=(bif x then u else 0) ^^^ (bif y then u else 0):=by
  cases x<;>cases y<;>simp
theorem cond_a (x:Bool) (u v:Nat):(bif x then u ^^^ v else 0)=(bif x then u else 0) ^^^ (bif x then v else 0):=by
  cases x<;>simp
theorem tw_lin:Lin twN:=fun x y=>by
  unfold twN
  rw[Nat.shiftLeft_xor_distrib,Nat.testBit_xor,cond_x,x4]
theorem mB_b (f:Nat):∀ a b c,mB f a (b ^^^ c)=mB f a b ^^^ mB f a c:=by
  induction f with
  |zero=>intro a b c;simp[mB]
  | succ f ih =>
    intro a b c
    rw[mB,mB,mB,Nat.testBit_xor,Nat.shiftRight_xor_distrib,ih,cond_x,x4]
theorem mB_a (f:Nat):∀ a a' b,mB f (a ^^^ a') b=mB f a b ^^^ mB f a' b:=by
  induction f with
  |zero=>intro a b c;simp[mB]
  | succ f ih =>
    intro a a' b
    rw[mB,mB,mB,tw_lin,ih,cond_a,x4]
theorem mu_a (b:Nat):Lin fun a=>mu a b:=fun x y=>mB_a 8 x y b
theorem mu_b (a:Nat):Lin fun b=>mu a b:=fun x y=>mB_b 8 a x y
theorem Lin.zero {f:Nat→Nat} (h:Lin f):f 0=0:=by
  have:=h 0 0
  simpa using this
theorem Lin.comp {f g:Nat→Nat} (hf:Lin f) (hg:Lin g):Lin fun x=>f (g x):=fun x y=>by
  show f (g (x ^^^ y))=_
  rw[hg,hf]
def bt (a k:Nat):Nat:=bif a.testBit k then 2 ^ k else 0
def bsum (a:Nat):Nat:=bt a 0 ^^^ (bt a 1 ^^^ (bt a 2 ^^^ (bt a 3 ^^^ (bt a 4 ^^^ (bt a 5 ^^^ (bt a 6 ^^^ bt a 7))))))
theorem bsum_eq {a:Nat} (h:a<256):bsum a=a:=by
  have h':∀ a:Fin 256,bsum a.1=a.1:=by decide+kernel
  exact h' ⟨a,h⟩
theorem bt_eq {f g:Nat→Nat} (hf:Lin f) (hg:Lin g) {k:Nat} (h:f (2 ^ k)=g (2 ^ k)) (a:Nat):f (bt a k)=g (bt a k):=by
  unfold bt
  cases a.testBit k
  · show f 0 = g 0
    rw[hf.zero,hg.zero]
  · exact h
theorem lin_ext {f g:Nat→Nat} (hf:Lin f) (hg:Lin g) (h:∀ k:Fin 8,f (2 ^ k.1)=g (2 ^ k.1)) {a:Nat} (ha:a<256):f a=g a:=by
  rw[← bsum_eq ha]
  unfold bsum
  rw[hf,hf,hf,hf,hf,hf,hf,hg,hg,hg,hg,hg,hg,hg]
  rw[bt_eq (k:=0) hf hg (h 0),bt_eq (k:=1) hf hg (h 1),bt_eq (k:=2) hf hg (h 2),bt_eq (k:=3) hf hg (h 3),bt_eq (k:=4) hf hg (h 4),bt_eq (k:=5) hf hg (h 5),bt_eq (k:=6) hf hg (h 6),bt_eq (k:=7) hf hg (h 7)]
theorem lin_lt {f:Nat→Nat} (hf:Lin f) (h:∀ k:Fin 8,f (2 ^ k.1)<256) {a:Nat} (ha:a<256):f a<256:=by
  rw[← bsum_eq ha]
  unfold bsum
  rw[hf,hf,hf,hf,hf,hf,hf]
  have hb : ∀ k : Fin 8, f (bt a k.1) < 2 ^ 8 := fun k => by
    unfold bt
    cases a.testBit k.1
    · show f 0 < _
      rw[hf.zero];decide
    · exact h k
  exact Nat.xor_lt_two_pow (hb 0) (Nat.xor_lt_two_pow (hb 1) (Nat.xor_lt_two_pow (hb 2) (Nat.xor_lt_two_pow (hb 3) (Nat.xor_lt_two_pow (hb 4) (Nat.xor_lt_two_pow (hb 5) (Nat.xor_lt_two_pow (hb 6) (hb 7)))))))
theorem mu_basis:∀ k l:Fin 8,mu (2 ^ k.1) (2 ^ l.1)<256∧mu (2 ^ k.1) (2 ^ l.1)=mu (2 ^ l.1) (2 ^ k.1):=by decide+kernel
theorem mu_lt {a b:Nat} (ha:a<256) (hb:b<256):mu a b<256:=
  lin_lt (mu_a b) (fun k=>lin_lt (mu_b (2 ^ k.1)) (fun l=>(mu_basis k l).1) hb) ha
theorem mu_comm {a b:Nat} (ha:a<256) (hb:b<256):mu a b=mu b a:=
  lin_ext (mu_a b) (mu_b b) (fun k=>lin_ext (mu_b (2 ^ k.1)) (mu_a (2 ^ k.1)) (fun l=>(mu_basis k l).2) hb) ha
theorem mu_basis3:∀ k l m:Fin 8,mu (mu (2 ^ k.1) (2 ^ l.1)) (2 ^ m.1)=mu (2 ^ k.1) (mu (2 ^ l.1) (2 ^ m.1)):=by decide+kernel
theorem mu_assoc {a b c:Nat} (ha:a<256) (hb:b<256) (hc:c<256):mu (mu a b) c=mu a (mu b c):=
  lin_ext (f:=fun a=>mu (mu a b) c) (g:=fun a=>mu a (mu b c)) ((mu_a c).comp (mu_a b)) (mu_a _) (fun k=>
    lin_ext (f:=fun b=>mu (mu (2 ^ k.1) b) c) (g:=fun b=>mu (2 ^ k.1) (mu b c)) ((mu_a c).comp (mu_b _)) ((mu_b _).comp (mu_a c)) (fun l=>
      lin_ext (f:=fun c=>mu (mu (2 ^ k.1) (2 ^ l.1)) c) (g:=fun c=>mu (2 ^ k.1) (mu (2 ^ l.1) c)) (mu_b _) ((mu_b _).comp (mu_b _)) (fun m=>mu_basis3 k l m) hc) hb) ha
theorem mu_one {a:Nat} (ha:a<256):mu a 1=a:=
  lin_ext (f:=fun a=>mu a 1) (g:=fun a=>a) (mu_a 1) (fun _ _=>rfl) (by decide+kernel) ha
theorem mu_0a (a:Nat):mu 0 a=0:=(mu_a a).zero
def clN (a b:Nat):Nat→Nat
  |0=>0
  |k+1=>if b / 2 ^ k%2=1 then clN a b k ^^^ a*2 ^ k else clN a b k
def rdN (p:Nat):Nat→Nat
  |0=>p
  |k+1=>if rdN p k / 2 ^ (14 - k)%2=1 then rdN p k ^^^ 283*2 ^ (14 - k - 8) else rdN p k
def mR (a b:Nat):Nat:=rdN (clN a b 8) 7%256
theorem tb (b k:Nat):(b / 2 ^ k%2=1)=(b.testBit k=true):=by
  rw[Nat.testBit_eq_decide_div_mod_eq]
  simp
theorem ifx (x:Bool) (u v:Nat):(if x=true then u ^^^ v else u)=u ^^^ (bif x then v else 0):=by
  cases x<;>simp
theorem clN_s (a b k:Nat):clN a b (k+1)=clN a b k ^^^ (bif b.testBit k then a <<< k else 0):=by
  rw[clN,Nat.shiftLeft_eq]
  simp only[tb]
  rw[ifx]
theorem rdN_s (p k:Nat):rdN p (k+1)=rdN p k ^^^ (bif (rdN p k).testBit (14 - k) then 283*2 ^ (14 - k - 8) else 0):=by
  rw[rdN]
  simp only[tb]
  rw[ifx]
theorem cl_a (b:Nat):∀ k,Lin fun a=>clN a b k
  |0=>fun _ _=>by simp[clN]
  | k + 1 => fun x y => by
    show clN (x ^^^ y) b (k+1)=clN x b (k+1) ^^^ clN y b (k+1)
    rw[clN_s,clN_s,clN_s,Nat.shiftLeft_xor_distrib,cond_a,show clN (x ^^^ y) b k=clN x b k ^^^ clN y b k from cl_a b k x y,x4]
theorem cl_b (a:Nat):∀ k,Lin fun b=>clN a b k
  |0=>fun _ _=>by simp[clN]
  | k + 1 => fun x y => by
    show clN a (x ^^^ y) (k+1)=clN a x (k+1) ^^^ clN a y (k+1)
    rw[clN_s,clN_s,clN_s,Nat.testBit_xor,cond_x,show clN a (x ^^^ y) k=clN a x k ^^^ clN a y k from cl_b a k x y,x4]
theorem rd_lin:∀ k,Lin fun p=>rdN p k
  |0=>fun _ _=>rfl
  | k + 1 => fun x y => by
    show rdN (x ^^^ y) (k+1)=rdN x (k+1) ^^^ rdN y (k+1)
    rw[rdN_s,rdN_s,rdN_s,show rdN (x ^^^ y) k=rdN x k ^^^ rdN y k from rd_lin k x y,Nat.testBit_xor,cond_x,x4]
theorem m256_lin:Lin fun p=>p%256:=fun x y=>Nat.xor_mod_two_pow (n:=8)
theorem mR_basis:∀ k l:Fin 8,mR (2 ^ k.1) (2 ^ l.1)=mu (2 ^ k.1) (2 ^ l.1):=by decide+kernel
theorem mR_eq {a b:Nat} (ha:a<256) (hb:b<256):mR a b=mu a b:=
  lin_ext (f:=fun a=>mR a b) (g:=fun a=>mu a b) (m256_lin.comp ((rd_lin 7).comp (cl_a b 8))) (mu_a b) (fun k=>
    lin_ext (f:=fun b=>mR (2 ^ k.1) b) (g:=fun b=>mu (2 ^ k.1) b) (m256_lin.comp ((rd_lin 7).comp (cl_b _ 8))) (mu_b _) (fun l=>mR_basis k l) hb) ha
theorem sh_lt {a k n:Nat} (ha:a<512) (hk:k+9≤n):a*2 ^ k<2 ^ n:=by
  have h1:2 ^ n=2 ^ k*2 ^ (n - k):=by rw[← Nat.pow_add];congr 1;omega
  have h2:2 ^ 9≤2 ^ (n - k):=Nat.pow_le_pow_right (by decide) (by omega)
  have h3:a*2 ^ k<512*2 ^ k:=Nat.mul_lt_mul_of_pos_right ha (Nat.two_pow_pos k)
  have h4:2 ^ k*512≤2 ^ k*2 ^ (n - k):=Nat.mul_le_mul_left _ h2
  omega
end Go.Proofs.Ythldpfindbhkeaa
