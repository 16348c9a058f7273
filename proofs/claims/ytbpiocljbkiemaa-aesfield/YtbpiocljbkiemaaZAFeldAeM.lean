import Derived.Test.YtbpiocljbkiemaaZAFeldAeA
set_option linter.unusedSimpArgs false
set_option linter.unusedVariables false
/-! aes: the field of 256 elements. -/
namespace Go.Proofs.Ytbpiocljbkiemaa
open Go.RowKit Go.Ev
def twN (a:Nat):Nat:=(a <<< 1) ^^^ (bif a.testBit 7 then 283 else 0)
def mB:Nat→Nat→Nat→Nat
  |0,_,_=>0
  |f+1,a,b=>(bif b.testBit 0 then a else 0) ^^^ mB f (twN a) (b >>> 1)
def mu (a b:Nat):Nat:=mB 8 a b
def Lin (f:Nat→Nat):Prop:=∀ x y,f (x ^^^ y)=f x ^^^ f y
theorem x4 (a b c d:Nat):(a ^^^ b) ^^^ (c ^^^ d)=(a ^^^ c) ^^^ (b ^^^ d):=by
  rw[Nat.xor_assoc,Nat.xor_assoc,← Nat.xor_assoc b c d,Nat.xor_comm b c,Nat.xor_assoc c b d]
theorem cond_x (x y:Bool) (u:Nat):(bif x ^^ y then u else 0)=(bif x then u else 0) ^^^ (bif y then u else 0):=by
  cases x<;>cases y<;>simp
theorem cond_a (x:Bool) (u v:Nat):(bif x then u ^^^ v else 0)=(bif x then u else 0) ^^^ (bif x then v else 0):=by
  cases x<;>simp
theorem tw_lin:Lin twN:=fun x y=>by
  unfold twN
  rw[Nat.shiftLeft_xor_distrib,Nat.testBit_xor,cond_x,x4]
theorem mB_b (f:Nat):∀ a b c,mB f a (b ^^^ c)=mB f a b ^^^ mB f a c:=by
  induction f with
  |zero=>intro a b c;simp[mB]
  | succ f ih =>
    intro a b c
    rw[mB,mB,mB,Nat.testBit_xor,Nat.shiftRight_xor_distrib,ih,cond_x,x4]
theorem mB_a (f:Nat):∀ a a' b,mB f (a ^^^ a') b=mB f a b ^^^ mB f a' b:=by
  induction f with
  |zero=>intro a b c;simp[mB]
  | succ f ih =>
    intro a a' b
    rw[mB,mB,mB,tw_lin,ih,cond_a,x4]
theorem mu_a (b:Nat):Lin fun a=>mu a b:=fun x y=>mB_a 8 x y b
theorem mu_b (a:Nat):Lin fun b=>mu a b:=fun x y=>mB_b 8 a x y
theorem Lin.zero {f:Nat→Nat} (h:Lin f):f 0=0:=by
  have:=h 0 0
  simpa using this
theorem Lin.comp {f g:Nat→Nat} (hf:Lin f) (hg:Lin g):Lin fun x=>f (g x):=fun x y=>by
  show f (g (x ^^^ y))=_
  rw[hg,hf]
def bt (a k:Nat):Nat:=bif a.testBit k then 2 ^ k else 0
def bsum (a:Nat):Nat:=bt a 0 ^^^ (bt a 1 ^^^ (bt a 2 ^^^ (bt a 3 ^^^ (bt a 4 ^^^ (bt a 5 ^^^ (bt a 6 ^^^ bt a 7))))))
theorem bsum_eq {a:Nat} (h:a<256):bsum a=a:=by
  have h':∀ a:Fin 256,bsum a.1=a.1:=by decide+kernel
  exact h' ⟨a,h⟩
theorem bt_eq {f g:Nat→Nat} (hf:Lin f) (hg:Lin g) {k:Nat} (h:f (2 ^ k)=g (2 ^ k)) (a:Nat):f (bt a k)=g (bt a k):=by
  unfold bt
  cases a.testBit k
  · show f 0 = g 0
    rw[hf.zero,hg.zero]
  · exact h
theorem lin_ext {f g:Nat→Nat} (hf:Lin f) (hg:Lin g) (h:∀ k:Fin 8,f (2 ^ k.1)=g (2 ^ k.1)) {a:Nat} (ha:a<256):f a=g a:=by
  rw[← bsum_eq ha]
  unfold bsum
  rw[hf,hf,hf,hf,hf,hf,hf,hg,hg,hg,hg,hg,hg,hg]
  rw[bt_eq (k:=0) hf hg (h 0),bt_eq (k:=1) hf hg (h 1),bt_eq (k:=2) hf hg (h 2),bt_eq (k:=3) hf hg (h 3),bt_eq (k:=4) hf hg (h 4),bt_eq (k:=5) hf hg (h 5),bt_eq (k:=6) hf hg (h 6),bt_eq (k:=7) hf hg (h 7)]
theorem lin_lt {f:Nat→Nat} (hf:Lin f) (h:∀ k:Fin 8,f (2 ^ k.1)<256) {a:Nat} (ha:a<256):f a<256:=by
  rw[← bsum_eq ha]
  unfold bsum
  rw[hf,hf,hf,hf,hf,hf,hf]
  have hb : ∀ k : Fin 8, f (bt a k.1) < 2 ^ 8 := fun k => by
    unfold bt
    cases a.testBit k.1
    · show f 0 < _
      rw[hf.zero];decide
    · exact h k
  exact Nat.xor_lt_two_pow (hb 0) (Nat.xor_lt_two_pow (hb 1) (Nat.xor_lt_two_pow (hb 2) (Nat.xor_lt_two_pow (hb 3) (Nat.xor_lt_two_pow (hb 4) (Nat.xor_lt_two_pow (hb 5) (Nat.xor_lt_two_pow (hb 6) (hb 7)))))))
theorem mu_basis:∀ k l:Fin 8,mu (2 ^ k.1) (2 ^ l.1)<256∧mu (2 ^ k.1) (2 ^ l.1)=mu (2 ^ l.1) (2 ^ k.1):=by decide+kernel
theorem mu_lt {a b:Nat} (ha:a<256) (hb:b<256):mu a b<256:=
  lin_lt (mu_a b) (fun k=>lin_lt (mu_b (2 ^ k.1)) (fun l=>(mu_basis k l).1) hb) ha
theorem mu_comm {a b:Nat} (ha:a<256) (hb:b<256):mu a b=mu b a:=
  lin_ext (mu_a b) (mu_b b) (fun k=>lin_ext (mu_b (2 ^ k.1)) (mu_a (2 ^ k.1)) (fun l=>(mu_basis k l).2) hb) ha
theorem mu_basis3:∀ k l m:Fin 8,mu (mu (2 ^ k.1) (2 ^ l.1)) (2 ^ m.1)=mu (2 ^ k.1) (mu (2 ^ l.1) (2 ^ m.1)):=by decide+kernel
theorem mu_assoc {a b c:Nat} (ha:a<256) (hb:b<256) (hc:c<256):mu (mu a b) c=mu a (mu b c):=
  lin_ext (f:=fun a=>mu (mu a b) c) (g:=fun a=>mu a (mu b c)) ((mu_a c).comp (mu_a b)) (mu_a _) (fun k=>
    lin_ext (f:=fun b=>mu (mu (2 ^ k.1) b) c) (g:=fun b=>mu (2 ^ k.1) (mu b c)) ((mu_a c).comp (mu_b _)) ((mu_b _).comp (mu_a c)) (fun l=>
      lin_ext (f:=fun c=>mu (mu (2 ^ k.1) (2 ^ l.1)) c) (g:=fun c=>mu (2 ^ k.1) (mu (2 ^ l.1) c)) (mu_b _) ((mu_b _).comp (mu_b _)) (fun m=>mu_basis3 k l m) hc) hb) ha
theorem mu_one {a:Nat} (ha:a<256):mu a 1=a:=
  lin_ext (f:=fun a=>mu a 1) (g:=fun a=>a) (mu_a 1) (fun _ _=>rfl) (by decide+kernel) ha
theorem mu_0a (a:Nat):mu 0 a=0:=(mu_a a).zero
theorem mu_0b (a:Nat):mu a 0=0:=(mu_b a).zero
end Go.Proofs.Ytbpiocljbkiemaa
