import Derived.Test.YtbpiocljbkiemaaZAFeldAeB
import Derived.Test.YtbpiocljbkiemaaZAFeldAeM
set_option linter.unusedSimpArgs false
set_option linter.unusedVariables false
/-! aes: products. -/
namespace Go.Proofs.Ytbpiocljbkiemaa
open Go.RowKit Go.Ev
theorem ofI8 (a:Nat) (h:a<256):(BitVec.ofInt 8 (a:Int)).toNat=a:=by
  rw[BitVec.ofInt_natCast,BitVec.toNat_ofNat];exact Nat.mod_eq_of_lt (by omega)
theorem x8 (a b:Nat) (ha:a<256) (hb:b<256):bits .xor .u8 (a:Int) (b:Int)=((a ^^^ b:Nat):Int):=by
  have hx:a ^^^ b<2 ^ 8:=Nat.xor_lt_two_pow (by omega) (by omega)
  show IntKind.u8.wrap ((BitVec.ofInt 8 (a:Int) ^^^ BitVec.ofInt 8 (b:Int)).toNat:Int)=_
  rw[BitVec.toNat_xor,ofI8 a ha,ofI8 b hb,IntKind.wrap_u8];omega
theorem tw_eq {a:Nat} (h:a<256):twv (a:Int)=((twN a:Nat):Int):=by
  have h':∀ a:Fin 256,twv ((a.1:Nat):Int)=((twN a.1:Nat):Int):=by decide+kernel
  exact h' ⟨a,h⟩
theorem twN_lt {a:Nat} (h:a<256):twN a<256:=by
  have h':∀ a:Fin 256,twN a.1<256:=by decide+kernel
  exact h' ⟨a,h⟩
theorem msk1 {b:Nat} (h:b<256):IntKind.u8.wrap (0 - bits .and .u8 (b:Int) 1)=if b.testBit 0=true then 255 else 0:=by
  have h':∀ b:Fin 256,IntKind.u8.wrap (0 - bits .and .u8 ((b.1:Nat):Int) 1)=if b.1.testBit 0=true then 255 else 0:=by decide+kernel
  exact h' ⟨b,h⟩
theorem msk2 {a:Nat} (h:a<256):bits .and .u8 (a:Int) 255=(a:Int)∧bits .and .u8 (a:Int) 0=0:=by
  have h':∀ a:Fin 256,bits .and .u8 ((a.1:Nat):Int) 255=((a.1:Nat):Int)∧bits .and .u8 ((a.1:Nat):Int) 0=0:=by decide+kernel
  exact h' ⟨a,h⟩
def msk (a b:Int):Int:=bits .and .u8 a (IntKind.u8.wrap (0 - (bits .and .u8 b 1)))
theorem msk_eq {a b:Nat} (ha:a<256) (hb:b<256):msk (a:Int) (b:Int)=(((bif b.testBit 0 then a else 0):Nat):Int):=by
  unfold msk
  rw[msk1 hb]
  cases b.testBit 0
  · simpa using(msk2 ha).2
  · simpa using(msk2 ha).1
def mZ:Nat→Int→Int→Int→Int
  |0,p,_,_=>p
  |f+1,p,a,b=>if b=0 then p else mZ f (bits .xor .u8 p (msk a b)) (twv a) (b / 2 ^ (1))
theorem mZ_0 (f:Nat) (p a:Int):mZ f p a 0=p:=by
  cases f with
  |zero=>rfl
  |succ f=>rw[mZ,if_pos rfl]
theorem mB_0 (f:Nat):∀ a,mB f a 0=0:=fun a=>Lin.zero (f:=fun b=>mB f a b) (fun x y=>mB_b f a x y)
theorem mZ_eq (f:Nat):∀ p a b:Nat,p<256→a<256→b<256→mZ f (p:Int) (a:Int) (b:Int)=((p ^^^ mB f a b:Nat):Int):=by
  induction f with
  |zero=>intro p a b _ _ _;simp[mZ,mB]
  | succ f ih =>
    intro p a b hp ha hb
    by_cases h0:b=0
    · subst h0
      rw[mB_0,Nat.xor_zero]
      exact mZ_0 _ _ _
    · have hc : (bif b.testBit 0 then a else 0) < 256 := by cases b.testBit 0 <;> simp [ha]
      have h2:((b:Nat):Int) / (2:Int) ^ (1:Nat)=((b >>> 1:Nat):Int):=by rw[Nat.shiftRight_eq_div_pow];simp
      rw[mZ,if_neg (by omega),msk_eq ha hb,x8 _ _ hp hc,tw_eq ha,h2,ih _ _ _ (Nat.xor_lt_two_pow (n:=8) hp hc) (twN_lt ha) (by rw[Nat.shiftRight_eq_div_pow];omega),mB,Nat.xor_assoc]
theorem pw_step {b:Int} {f:Nat} (h0:b≠0) (h1:0≤b) (h:b<((2 ^ f:Nat):Int)):∃ g,f=g+1∧b / 2 ^ (1)<((2 ^ g:Nat):Int):=by
  cases f with
  |zero=>simp at h;omega
  | succ g =>
    refine⟨g,rfl,?_⟩
    rw[Nat.pow_succ] at h
    omega
abbrev aMuA_s (x y:Int) (j:Nat→Value):List Value:=([.int .u8 x,.int .u8 y] ++ (JU 18))
abbrev aMuA_m (x y:Int):List Mb:= []
abbrev aMuB_s (x y:Int) (j:Nat→Value):List Value:=([.int .u8 x,.int .u8 y] ++ (J j 2 18))
abbrev aMuB_m (x y:Int):List Mb:= []
def aMu0p_h (i:Nat):Hn:=⟨0,[],[],[],[]⟩
def aMu0p_b (x y:Int) (j:Nat→Value):List Value:=([.int .u8 x,.int .u8 y,undef,undef,.int .u8 0] ++ (JU 15))
theorem aMu0p_0 (x y:Int) (j:Nat→Value):evC (yty.en tabB1) aMu0p_h (cAt [0] (bdy Try.f8)) ⟨aMuA_s x y j,aMuA_m x y,True,[]⟩=some (.normal,⟨aMu0p_b x y j,[],(True∧True),[]⟩):=by kernel_rfl
theorem aMu0 (x y:Int) (j:Nat→Value) (hx:0≤x∧x<256) (hy:0≤y∧y<256)  {c0:Prop} {ch0:List (Option Value)}:Runs Try.prog (cAt [0] (bdy Try.f8)) ⟨aMuA_s x y j,aMuA_m x y,c0,ch0⟩ (fun e s=>e= .normal∧∃(j:Nat→Value) (c:Prop) (ch:List (Option Value)),s=⟨aMuB_s x y j,aMuB_m x y,c,ch⟩) 0:=by
  refine(runs_ev mixed _ (aMu0p_0 x y j) ⟨trivial,trivial⟩).mono ?_
  rintro e s ⟨rfl,hs⟩
  refine⟨rfl,fun q=>s.tm.getD q undef,s.c,s.ch,?_⟩
  subst hs
  kernel_rfl
abbrev aMuC_s (x y p a b:Int) (f k:Nat) (j:Nat→Value):List Value:=([.int .u8 a,.int .u8 b] ++ (J j 2 3 ++ ([.int .u8 p] ++ (J j 6 14))))
abbrev aMuC_m (x y p a b:Int) (f k:Nat):List Mb:= []
def aMu1p_h (i:Nat):Hn:=⟨0,[],[],[],[]⟩
def aMu1p_b (x y:Int) (j:Nat→Value):List Value:=([.int .u8 x,.int .u8 y] ++ (J j 2 3 ++ ([.int .u8 0] ++ (J j 6 14))))
theorem aMu1p_0 (x y:Int) (j:Nat→Value):evC (yty.en tabB1) aMu1p_h (cAt [1,0] (bdy Try.f8)) ⟨aMuB_s x y j,aMuB_m x y,True,[]⟩=some (.normal,⟨aMu1p_b x y j,[],(True∧True),[]⟩):=by kernel_rfl
theorem aMu1 (x y:Int) (j:Nat→Value) (hx:0≤x∧x<256) (hy:0≤y∧y<256)  {c0:Prop} {ch0:List (Option Value)}:Runs Try.prog (cAt [1,0] (bdy Try.f8)) ⟨aMuB_s x y j,aMuB_m x y,c0,ch0⟩ (fun e s=>e= .normal∧∃(j:Nat→Value) (c:Prop) (ch:List (Option Value)),(0≤(0:Int)∧(0:Int)<256)∧(0≤x∧x<256)∧(0≤y∧y<256)∧(y+(256 - y.toNat:Nat)=256)∧(y<((2 ^ 8:Nat):Int))∧(mZ 8 (0:Int) x y=mZ 8 0 x y)∧s=⟨aMuC_s x y (0:Int) x y 8 (256 - y.toNat:Nat) j,aMuC_m x y (0:Int) x y 8 (256 - y.toNat:Nat),c,ch⟩) 0:=by
  refine(runs_ev mixed _ (aMu1p_0 x y j) ⟨trivial,trivial⟩).mono ?_
  rintro e s ⟨rfl,hs⟩
  refine⟨rfl,fun q=>s.tm.getD q undef,s.c,s.ch,⟨by decide,by decide⟩,hx,hy,by omega,by simpa using hy.2,rfl,?_⟩
  subst hs
  kernel_rfl
abbrev aMuD_s (x y p a b:Int) (f k:Nat) (j:Nat→Value):List Value:=(J j 0 5 ++ ([.int .u8 p] ++ (J j 6 14)))
abbrev aMuD_m (x y p a b:Int) (f k:Nat):List Mb:= []
def aMu2p_h (i:Nat):Hn:=⟨0,[],[],[],[]⟩
def aMu2p_b (x y p a b:Int) (f k:Nat) (j:Nat→Value):List Value:=([.int .u8 (twv a),.int .u8 (b / 2 ^ (1))] ++ (J j 2 3 ++ ([.int .u8 (bits .xor .u8 p (bits .and .u8 a (IntKind.u8.wrap (0 - (bits .and .u8 b 1))))),.int .u8 b,.bool true,.int .u8 b,.int .u8 (b / 2 ^ (1)),.int .u8 p,.int .u8 a,.int .u8 b,.int .u8 (bits .and .u8 b 1),.int .u8 (IntKind.u8.wrap (0 - (bits .and .u8 b 1))),.int .u8 (bits .and .u8 a (IntKind.u8.wrap (0 - (bits .and .u8 b 1)))),.int .u8 (bits .xor .u8 p (bits .and .u8 a (IntKind.u8.wrap (0 - (bits .and .u8 b 1))))),.int .u8 a,.int .u8 (twv a),j 19])))
theorem aMu2p_0 (x y p a b:Int) (f k:Nat) (j:Nat→Value):evC (yty.en tabB1) aMu2p_h (cAt [1,1,0,0,0] (bdy Try.f8)) ⟨aMuC_s x y p a b f k j,aMuC_m x y p a b f k,True,[some (.bool true)]⟩=some (.normal,⟨aMu2p_b x y p a b f k j,[],((((((((((((((((True∧True)∧(True∧(!decide (b=0))=true))∧True)∧True)∧True)∧True)∧True)∧True)∧True)∧True)∧True)∧(IntKind.u8=IntKind.u8∧(0≤a∧a<256)))∧True)∧True)∧((0:Int)≤1))∧True),[]⟩):=by kernel_rfl
theorem aMu2 (x y p a b:Int) (f k:Nat) (j:Nat→Value) (hx:0≤x∧x<256) (hy:0≤y∧y<256) (hp:0≤p∧p<256) (ha:0≤a∧a<256) (hb:0≤b∧b<256) (hk:b+k=256) (hf:b<((2 ^ f:Nat):Int)) (hm:mZ f p a b=mZ 8 0 x y) (hlt:k<256) {c0:Prop} {ch0:List (Option Value)}:Runs Try.prog (cAt [1,1,0,0,0] (bdy Try.f8)) ⟨aMuC_s x y p a b f k j,aMuC_m x y p a b f k,c0,ch0⟩ (fun e s=>e= .normal∧∃(j:Nat→Value) (c:Prop) (ch:List (Option Value)),(0≤(bits .xor .u8 p (msk a b))∧(bits .xor .u8 p (msk a b))<256)∧(0≤(twv a)∧(twv a)<256)∧(0≤(b / 2 ^ (1))∧(b / 2 ^ (1))<256)∧((b / 2 ^ (1))+(256 - (b / 2 ^ (1)).toNat:Nat)=256)∧((b / 2 ^ (1))<((2 ^ (f - 1):Nat):Int))∧(mZ (f - 1) (bits .xor .u8 p (msk a b)) (twv a) (b / 2 ^ (1))=mZ 8 0 x y)∧s=⟨aMuC_s x y (bits .xor .u8 p (msk a b)) (twv a) (b / 2 ^ (1)) (f - 1) (256 - (b / 2 ^ (1)).toNat:Nat) j,aMuC_m x y (bits .xor .u8 p (msk a b)) (twv a) (b / 2 ^ (1)) (f - 1) (256 - (b / 2 ^ (1)).toNat:Nat),c,ch⟩) 0:=by
  have h0:(!decide (b=0))=true:=(neT (by omega))
  refine(runs_ev mixed _ (aMu2p_0 x y p a b f k j) ⟨⟨⟨⟨⟨⟨⟨⟨⟨⟨⟨⟨⟨⟨⟨⟨trivial,trivial⟩,⟨trivial,h0⟩⟩,trivial⟩,trivial⟩,trivial⟩,trivial⟩,trivial⟩,trivial⟩,trivial⟩,trivial⟩,trivial⟩,⟨rfl,ha⟩⟩,trivial⟩,trivial⟩,(by decide)⟩,trivial⟩).mono ?_
  rintro e s ⟨rfl,hs⟩
  refine⟨rfl,fun q=>s.tm.getD q undef,s.c,s.ch,xb _ _ _,xb _ _ _,by omega,by omega,by obtain⟨g,rfl,hg⟩:=pw_step (by omega) hb.1 hf;exact hg,by obtain⟨g,rfl,hg⟩:=pw_step (by omega) hb.1 hf;rw[← hm,mZ,if_neg (by omega)];rfl,?_⟩
  subst hs
  kernel_rfl
def aMu3p_h (i:Nat):Hn:=⟨0,[],[],[],[]⟩
def aMu3p_b (x y p a b:Int) (f k:Nat) (j:Nat→Value):List Value:=([.int .u8 a,.int .u8 b] ++ (J j 2 3 ++ ([.int .u8 p,.int .u8 b,.bool false] ++ (J j 8 12))))
theorem aMu3p_0 (x y p a b:Int) (f k:Nat) (j:Nat→Value):evC (yty.en tabB1) aMu3p_h (cAt [1,1,0,0,0] (bdy Try.f8)) ⟨aMuC_s x y p a b f k j,aMuC_m x y p a b f k,True,[some (.bool false)]⟩=some ((.exit 0),⟨aMu3p_b x y p a b f k j,[],((True∧True)∧(True∧(!decide (b=0))=false)),[]⟩):=by kernel_rfl
theorem aMu3 (x y p a b:Int) (f k:Nat) (j:Nat→Value) (hx:0≤x∧x<256) (hy:0≤y∧y<256) (hp:0≤p∧p<256) (ha:0≤a∧a<256) (hb:0≤b∧b<256) (hk:b+k=256) (hf:b<((2 ^ f:Nat):Int)) (hm:mZ f p a b=mZ 8 0 x y) (hge:¬ k<256) {c0:Prop} {ch0:List (Option Value)}:Runs Try.prog (cAt [1,1,0,0,0] (bdy Try.f8)) ⟨aMuC_s x y p a b f k j,aMuC_m x y p a b f k,c0,ch0⟩ (fun e s=>e=(.exit 0)∧∃(j:Nat→Value) (c:Prop) (ch:List (Option Value)),(p=mZ 8 0 x y)∧s=⟨aMuD_s x y p a b f k j,aMuD_m x y p a b f k,c,ch⟩) 0:=by
  have h0:(!decide (b=0))=false:=(neF (by omega))
  refine(runs_ev mixed _ (aMu3p_0 x y p a b f k j) ⟨⟨trivial,trivial⟩,⟨trivial,h0⟩⟩).mono ?_
  rintro e s ⟨rfl,hs⟩
  refine⟨rfl,fun q=>s.tm.getD q undef,s.c,s.ch,by rw[← hm,show b=0 by omega,mZ_0],?_⟩
  subst hs
  kernel_rfl
theorem aMu4L (x:Int) (y:Int) (j:Nat→Value) (hx:0≤x∧x<256) (hy:0≤y∧y<256) (ihp:0≤(0:Int)∧(0:Int)<256) (iha:0≤x∧x<256) (ihb:0≤y∧y<256) (ihk:y+(256 - y.toNat:Nat)=256) (ihf:y<((2 ^ 8:Nat):Int)) (ihm:mZ 8 (0:Int) x y=mZ 8 0 x y)  {c0:Prop} {ch0:List (Option Value)}:Runs Try.prog (.loop (cAt [1,1,0,0,0] (bdy Try.f8))) ⟨aMuC_s x y (0:Int) x y 8 (256 - y.toNat:Nat) j,aMuC_m x y (0:Int) x y 8 (256 - y.toNat:Nat),c0,ch0⟩ (fun e s=>e= .exit 0∧∃(p:Int) (a:Int) (b:Int) (f:Nat) (k:Nat) (j:Nat→Value) (c:Prop) (ch:List (Option Value)),(p=mZ 8 0 x y)∧s=⟨aMuD_s x y p a b f k j,aMuD_m x y p a b f k,c,ch⟩) 0:=by
  refine runs_loop (fun M s=>∃(p:Int) (a:Int) (b:Int) (f:Nat) (k:Nat) (j:Nat→Value) (c:Prop) (ch:List (Option Value)),(0≤p∧p<256)∧(0≤a∧a<256)∧(0≤b∧b<256)∧(b+k=256)∧(b<((2 ^ f:Nat):Int))∧(mZ f p a b=mZ 8 0 x y)∧M=256 - k∧s=⟨aMuC_s x y p a b f k j,aMuC_m x y p a b f k,c,ch⟩) (256 - (256 - y.toNat:Nat)) ⟨(0:Int),x,y,8,(256 - y.toNat:Nat),j,c0,ch0,ihp,iha,ihb,ihk,ihf,ihm,rfl,rfl⟩ ?_
  rintro M s ⟨p,a,b,f,k,j,c,ch,hp,ha,hb,hk,hf,hm,rfl,rfl⟩
  by_cases hlt:k<256
  · skip
    refine(aMu2 x y p a b f k j hx hy hp ha hb hk hf hm hlt).mono ?_
    rintro e s ⟨rfl,j,c,ch,f2,f3,f4,f5,f6,f7,rfl⟩
    exact .inl ⟨rfl,256 - (256 - (b / 2 ^ (1)).toNat:Nat),by omega,⟨(bits .xor .u8 p (msk a b)),(twv a),(b / 2 ^ (1)),(f - 1),(256 - (b / 2 ^ (1)).toNat:Nat),j,c,ch,f2,f3,f4,f5,f6,f7,rfl,rfl⟩⟩
  · refine (aMu3 x y p a b f k j hx hy hp ha hb hk hf hm hlt).mono ?_
    intro e s hh
    obtain⟨rfl,j,c,ch,f2,rfl⟩:=hh
    exact .inr ⟨by simp,rfl,p,a,b,f,k,j,c,ch,f2,rfl⟩
theorem aMu4 (x:Int) (y:Int) (j:Nat→Value) (hx:0≤x∧x<256) (hy:0≤y∧y<256) (ihp:0≤(0:Int)∧(0:Int)<256) (iha:0≤x∧x<256) (ihb:0≤y∧y<256) (ihk:y+(256 - y.toNat:Nat)=256) (ihf:y<((2 ^ 8:Nat):Int)) (ihm:mZ 8 (0:Int) x y=mZ 8 0 x y)  {c0:Prop} {ch0:List (Option Value)}:Runs Try.prog (cAt [1,1,0] (bdy Try.f8)) ⟨aMuC_s x y (0:Int) x y 8 (256 - y.toNat:Nat) j,aMuC_m x y (0:Int) x y 8 (256 - y.toNat:Nat),c0,ch0⟩ (fun e s=>e= .normal∧∃(p:Int) (a:Int) (b:Int) (f:Nat) (k:Nat) (j:Nat→Value) (c:Prop) (ch:List (Option Value)),(p=mZ 8 0 x y)∧s=⟨aMuD_s x y p a b f k j,aMuD_m x y p a b f k,c,ch⟩) 0:=by
  rw[show(cAt [1,1,0] (bdy Try.f8))= .block 0 (.loop (cAt [1,1,0,0,0] (bdy Try.f8))) from by kernel_rfl]
  refine runs_block (aMu4L x y j hx hy ihp iha ihb ihk ihf ihm ) ?_
  rintro e s ⟨rfl,hh⟩
  exact .inl ⟨rfl,rfl,hh⟩
abbrev aMuE_s (x y p a b:Int) (f k:Nat) (j:Nat→Value):List Value:=(J j 0 4 ++ ([.int .u8 p] ++ (J j 5 15)))
abbrev aMuE_m (x y p a b:Int) (f k:Nat):List Mb:= []
def aMu6p_h (i:Nat):Hn:=⟨0,[],[],[],[]⟩
def aMu6p_b (x y p a b:Int) (f k:Nat) (j:Nat→Value):List Value:=(J j 0 4 ++ ([.int .u8 p,.int .u8 p] ++ (J j 6 13 ++ ([.int .u8 p]))))
theorem aMu6p_0 (x y p a b:Int) (f k:Nat) (j:Nat→Value):evC (yty.en tabB1) aMu6p_h (cAt [1,1,1] (bdy Try.f8)) ⟨aMuD_s x y p a b f k j,aMuD_m x y p a b f k,True,[]⟩=some (.ret,⟨aMu6p_b x y p a b f k j,[],((True∧True)∧True),[]⟩):=by kernel_rfl
theorem aMu6 (x y p a b:Int) (f k:Nat) (j:Nat→Value) (hx:0≤x∧x<256) (hy:0≤y∧y<256) (hm:p=mZ 8 0 x y)  {c0:Prop} {ch0:List (Option Value)}:Runs Try.prog (cAt [1,1,1] (bdy Try.f8)) ⟨aMuD_s x y p a b f k j,aMuD_m x y p a b f k,c0,ch0⟩ (fun e s=>e= .ret∧∃(j:Nat→Value) (c:Prop) (ch:List (Option Value)),s=⟨aMuE_s x y p a b f k j,aMuE_m x y p a b f k,c,ch⟩) 0:=by
  refine(runs_ev mixed _ (aMu6p_0 x y p a b f k j) ⟨⟨trivial,trivial⟩,trivial⟩).mono ?_
  rintro e s ⟨rfl,hs⟩
  refine⟨rfl,fun q=>s.tm.getD q undef,s.c,s.ch,?_⟩
  subst hs
  kernel_rfl
theorem aMu7 (x y:Int) (j:Nat→Value) (hx:0≤x∧x<256) (hy:0≤y∧y<256)  {c0:Prop} {ch0:List (Option Value)}:Runs Try.prog (cAt [1] (bdy Try.f8)) ⟨aMuB_s x y j,aMuB_m x y,c0,ch0⟩ (fun e s=>e= .ret∧∃(p1:Int) (a1:Int) (b1:Int) (f1:Nat) (k1:Nat) (j:Nat→Value) (c:Prop) (ch:List (Option Value)),(p1=mZ 8 0 x y)∧s=⟨aMuE_s x y p1 a1 b1 f1 k1 j,aMuE_m x y p1 a1 b1 f1 k1,c,ch⟩) 0:=by
  rw[show(cAt [1] (bdy Try.f8))=(.seq (cAt [1,0] (bdy Try.f8)) (.seq (cAt [1,1,0] (bdy Try.f8)) (cAt [1,1,1] (bdy Try.f8)))) from by kernel_rfl]
  refine runs_seq (aMu1 x y j hx hy ) (fun s hh=> ?_) (fun e s hne hh=>absurd hh.1 hne)
  obtain⟨_,j,c,ch,f0_2,f0_3,f0_4,f0_5,f0_6,f0_7,rfl⟩:=hh
  refine runs_seq (aMu4 x y j hx hy f0_2 f0_3 f0_4 f0_5 f0_6 f0_7 ) (fun s hh=> ?_) (fun e s hne hh=>absurd hh.1 hne)
  obtain⟨_,p1,a1,b1,f1,k1,j,c,ch,f1_2,rfl⟩:=hh
  refine(aMu6 x y p1 a1 b1 f1 k1 j hx hy f1_2 ).mono ?_
  rintro e s ⟨rfl,j,c,ch,rfl⟩
  exact⟨rfl,p1,a1,b1,f1,k1,j,c,ch,f1_2,rfl⟩
theorem aMuu (x y:Int) (j:Nat→Value) (hx:0≤x∧x<256) (hy:0≤y∧y<256)  {c0:Prop} {ch0:List (Option Value)}:Runs Try.prog (cAt [] (bdy Try.f8)) ⟨aMuA_s x y j,aMuA_m x y,c0,ch0⟩ (fun e s=>e= .ret∧∃(p11:Int) (a11:Int) (b11:Int) (f11:Nat) (k11:Nat) (j:Nat→Value) (c:Prop) (ch:List (Option Value)),(p11=mZ 8 0 x y)∧s=⟨aMuE_s x y p11 a11 b11 f11 k11 j,aMuE_m x y p11 a11 b11 f11 k11,c,ch⟩) 0:=by
  rw[show(cAt [] (bdy Try.f8))=(.seq (cAt [0] (bdy Try.f8)) (cAt [1] (bdy Try.f8))) from by kernel_rfl]
  refine runs_seq (aMu0 x y j hx hy ) (fun s hh=> ?_) (fun e s hne hh=>absurd hh.1 hne)
  obtain⟨_,j,c,ch,rfl⟩:=hh
  refine(aMu7 x y j hx hy ).mono ?_
  rintro e s ⟨rfl,p11,a11,b11,f11,k11,j,c,ch,f1_2,rfl⟩
  exact⟨rfl,p11,a11,b11,f11,k11,j,c,ch,f1_2,rfl⟩
theorem aMu_c (x y:Int) (hx:0≤x∧x<256) (hy:0≤y∧y<256):Pure Try.prog 8 #[.int .u8 x,.int .u8 y] (.int .u8 (mZ 8 0 x y)):=by
  refine pure_runs (E:=(yty.en tabB1)) Try.func8 (c:=bdy Try.f8) (by kernel_rfl) (args:= [.int .u8 x,.int .u8 y]) (by kernel_rfl) (K:=fun e s=>e= .ret∧resS (yty.en tabB1) s Try.f8.results.toList=some [.int .u8 (mZ 8 0 x y)]) ?_ (fun e s h=>⟨h.1,_,h.2,rfl⟩)
  refine(aMuu x y (fun _=>undef) hx hy).mono ?_
  rintro e s ⟨rfl,p,a,b,f,k,j,c,ch,hm,rfl⟩
  rw[← hm]
  exact⟨rfl,by kernel_rfl⟩
def mv (x y:Int):Int:=((mu x.toNat y.toNat:Nat):Int)
theorem mZ_mu {x y:Int} (hx:0≤x∧x<256) (hy:0≤y∧y<256):mZ 8 0 x y=mv x y:=by
  have h:=mZ_eq 8 0 x.toNat y.toNat (by decide) (by omega) (by omega)
  rw[Int.toNat_of_nonneg hx.1,Int.toNat_of_nonneg hy.1,Nat.zero_xor] at h
  exact h
theorem mv_b {x y:Int} (hx:0≤x∧x<256) (hy:0≤y∧y<256):0≤mv x y∧mv x y<256:=by
  have:=mu_lt (a:=x.toNat) (b:=y.toNat) (by omega) (by omega)
  unfold mv;omega
def B2 (x y:Int):Prop:=(0≤x∧x<256)∧(0≤y∧y<256)
def pmu:Entry Try.prog:=ent2N Try.func8 (by kernel_rfl) (by kernel_rfl) (fun x y=> .int .u8 (mv x y)) B2 (k:= .u8) (k':= .u8) (fun x y h=>by
  have:=aMu_c x y h.1 h.2
  rwa[mZ_mu h.1 h.2] at this)
end Go.Proofs.Ytbpiocljbkiemaa
