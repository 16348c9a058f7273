import Derived.Test.YthldpfindbhkeaaZSPvalAeB
import Derived.Test.YthldpfindbhkeaaZSPvalAeM
set_option linter.unusedSimpArgs false
set_option linter.unusedVariables false
/-! aes: products. -/
namespace Go.Proofs.Ythldpfindbhkeaa
open Go.RowKit Go.Ev
theorem ofI8 (a:Nat) (h:a<256):(BitVec.ofInt 8 (a:Int)).toNat=a:=by
  rw[BitVec.ofInt_natCast,BitVec.toNat_ofNat];exact Nat.mod_eq_of_lt (by omega)
theorem x8 (a b:Nat) (ha:a<256) (hb:b<256):bits .xor .u8 (a:Int) (b:Int)=((a ^^^ b:Nat):Int):=by
  have hx:a ^^^ b<2 ^ 8:=Nat.xor_lt_two_pow (by omega) (by omega)
  show IntKind.u8.wrap ((BitVec.ofInt 8 (a:Int) ^^^ BitVec.ofInt 8 (b:Int)).toNat:Int)=_
  rw[BitVec.toNat_xor,ofI8 a ha,ofI8 b hb,IntKind.wrap_u8];omega
theorem ofI64 (a:Nat) (h:a<18446744073709551616):(BitVec.ofInt 64 (a:Int)).toNat=a:=by
  rw[BitVec.ofInt_natCast,BitVec.toNat_ofNat];exact Nat.mod_eq_of_lt (by omega)
theorem xi64 (a b:Nat) (ha:a<2 ^ 32) (hb:b<2 ^ 32):bits .xor .i64 (a:Int) (b:Int)=((a ^^^ b:Nat):Int):=by
  have hx:a ^^^ b<2 ^ 32:=Nat.xor_lt_two_pow ha hb
  show IntKind.i64.wrap ((BitVec.ofInt 64 (a:Int) ^^^ BitVec.ofInt 64 (b:Int)).toNat:Int)=_
  rw[BitVec.toNat_xor,ofI64 a (by omega),ofI64 b (by omega),IntKind.wrap_i64];omega
theorem tw_eq {a:Nat} (h:a<256):twv (a:Int)=((twN a:Nat):Int):=by
  have h':∀ a:Fin 256,twv ((a.1:Nat):Int)=((twN a.1:Nat):Int):=by decide+kernel
  exact h' ⟨a,h⟩
theorem twN_lt {a:Nat} (h:a<256):twN a<256:=by
  have h':∀ a:Fin 256,twN a.1<256:=by decide+kernel
  exact h' ⟨a,h⟩
def mv (x y:Int):Int:=((mu x.toNat y.toNat:Nat):Int)
theorem mv_b {x y:Int} (hx:0≤x∧x<256) (hy:0≤y∧y<256):0≤mv x y∧mv x y<256:=by
  have:=mu_lt (a:=x.toNat) (b:=y.toNat) (by omega) (by omega)
  unfold mv;omega
def B2 (x y:Int):Prop:=(0≤x∧x<256)∧(0≤y∧y<256)
abbrev aMrA_s (a b:Nat) (j:Nat→Value):List Value:=([.int .u8 ((a:Nat):Int),.int .u8 ((b:Nat):Int)] ++ (JU 37))
abbrev aMrA_m (a b:Nat):List Mb:= []
abbrev aMrB_s (a b:Nat) (j:Nat→Value):List Value:=([.int .u8 ((a:Nat):Int),.int .u8 ((b:Nat):Int)] ++ (J j 2 37))
abbrev aMrB_m (a b:Nat):List Mb:= []
def aMr0p_h (i:Nat):Hn:=⟨0,[],[],[],[]⟩
def aMr0p_b (a b:Nat) (j:Nat→Value):List Value:=([.int .u8 ((a:Nat):Int),.int .u8 ((b:Nat):Int),undef,undef,.int .u8 0] ++ (JU 34))
theorem aMr0p_0 (a b:Nat) (j:Nat→Value):evC (yty.en tab0) aMr0p_h (cAt [0] (bdy Try.f56)) ⟨aMrA_s a b j,aMrA_m a b,True,[]⟩=some (.normal,⟨aMr0p_b a b j,[],(True∧True),[]⟩):=by kernel_rfl
theorem aMr0 (a b:Nat) (j:Nat→Value) (ha:a<256) (hb:b<256)  {c0:Prop} {ch0:List (Option Value)}:Runs Try.prog (cAt [0] (bdy Try.f56)) ⟨aMrA_s a b j,aMrA_m a b,c0,ch0⟩ (fun e s=>e= .normal∧∃(j:Nat→Value) (c:Prop) (ch:List (Option Value)),s=⟨aMrB_s a b j,aMrB_m a b,c,ch⟩) 0:=by
  refine(runs_ev mixed _ (aMr0p_0 a b j) ⟨trivial,trivial⟩).mono ?_
  rintro e s ⟨rfl,hs⟩
  refine⟨rfl,fun q=>s.tm.getD q undef,s.c,s.ch,?_⟩
  subst hs
  kernel_rfl
abbrev aMrC_s (a b:Nat) (j:Nat→Value):List Value:=([.int .u8 ((a:Nat):Int),.int .u8 ((b:Nat):Int)] ++ (J j 2 3 ++ ([.int .i64 0] ++ (J j 6 33))))
abbrev aMrC_m (a b:Nat):List Mb:= []
def aMr1p_h (i:Nat):Hn:=⟨0,[],[],[],[]⟩
def aMr1p_b (a b:Nat) (j:Nat→Value):List Value:=([.int .u8 ((a:Nat):Int),.int .u8 ((b:Nat):Int)] ++ (J j 2 3 ++ ([.int .i64 0] ++ (J j 6 33))))
theorem aMr1p_0 (a b:Nat) (j:Nat→Value):evC (yty.en tab0) aMr1p_h (cAt [1,0] (bdy Try.f56)) ⟨aMrB_s a b j,aMrB_m a b,True,[]⟩=some (.normal,⟨aMr1p_b a b j,[],(True∧True),[]⟩):=by kernel_rfl
theorem aMr1 (a b:Nat) (j:Nat→Value) (ha:a<256) (hb:b<256)  {c0:Prop} {ch0:List (Option Value)}:Runs Try.prog (cAt [1,0] (bdy Try.f56)) ⟨aMrB_s a b j,aMrB_m a b,c0,ch0⟩ (fun e s=>e= .normal∧∃(j:Nat→Value) (c:Prop) (ch:List (Option Value)),s=⟨aMrC_s a b j,aMrC_m a b,c,ch⟩) 0:=by
  refine(runs_ev mixed _ (aMr1p_0 a b j) ⟨trivial,trivial⟩).mono ?_
  rintro e s ⟨rfl,hs⟩
  refine⟨rfl,fun q=>s.tm.getD q undef,s.c,s.ch,?_⟩
  subst hs
  kernel_rfl
abbrev aMrD_s (a b p i:Nat) (j:Nat→Value):List Value:=([.int .u8 ((a:Nat):Int),.int .u8 ((b:Nat):Int)] ++ (J j 2 3 ++ ([.int .i64 ((p:Nat):Int),.int .i64 ((i:Nat):Int)] ++ (J j 7 32))))
abbrev aMrD_m (a b p i:Nat):List Mb:= []
def aMr2p_h (i:Nat):Hn:=⟨0,[],[],[],[]⟩
def aMr2p_b (a b:Nat) (j:Nat→Value):List Value:=([.int .u8 ((a:Nat):Int),.int .u8 ((b:Nat):Int)] ++ (J j 2 3 ++ ([.int .i64 0,.int .i64 0] ++ (J j 7 32))))
theorem aMr2p_0 (a b:Nat) (j:Nat→Value):evC (yty.en tab0) aMr2p_h (cAt [1,1,0,0] (bdy Try.f56)) ⟨aMrC_s a b j,aMrC_m a b,True,[]⟩=some (.normal,⟨aMr2p_b a b j,[],(True∧True),[]⟩):=by kernel_rfl
theorem aMr2 (a b:Nat) (j:Nat→Value) (ha:a<256) (hb:b<256)  {c0:Prop} {ch0:List (Option Value)}:Runs Try.prog (cAt [1,1,0,0] (bdy Try.f56)) ⟨aMrC_s a b j,aMrC_m a b,c0,ch0⟩ (fun e s=>e= .normal∧∃(j:Nat→Value) (c:Prop) (ch:List (Option Value)),(0=clN a b 0)∧(0<2 ^ 17)∧(0≤8)∧s=⟨aMrD_s a b 0 0 j,aMrD_m a b 0 0,c,ch⟩) 0:=by
  refine(runs_ev mixed _ (aMr2p_0 a b j) ⟨trivial,trivial⟩).mono ?_
  rintro e s ⟨rfl,hs⟩
  refine⟨rfl,fun q=>s.tm.getD q undef,s.c,s.ch,rfl,by decide,by omega,?_⟩
  subst hs
  kernel_rfl
theorem sh_nat {a i:Nat} (ha:a<512) (hi:i<16):IntKind.i64.wrap (((a:Nat):Int)*2 ^ (min (Int.toNat ((i:Nat):Int)) 64))=((a*2 ^ i:Nat):Int):=by
  have h:=sh_lt (a:=a) (k:=i) (n:=32) ha (by omega)
  rw[Int.toNat_natCast,Nat.min_eq_left (by omega)]
  have e:((a:Nat):Int)*2 ^ i=((a*2 ^ i:Nat):Int):=by simp
  rw[e,IntKind.wrap_i64]
  omega
def aMr3p_h (i:Nat):Hn:=⟨0,[],[],[],[]⟩
def aMr3p_b (a b p i:Nat) (j:Nat→Value):List Value:=([.int .u8 ((a:Nat):Int),.int .u8 ((b:Nat):Int)] ++ (J j 2 3 ++ ([.int .i64 ((p ^^^ a*2 ^ i:Nat):Int),.int .i64 ((i+1:Nat):Int),j 7,.int .i64 ((i:Nat):Int),.bool true,.int .i64 ((i:Nat):Int),.int .i64 ((i+1:Nat):Int),.int .u8 ((b:Nat):Int),.int .i64 ((i:Nat):Int),.int .u8 ((b / 2 ^ i:Nat):Int),.int .u8 (((b / 2 ^ i)%2:Nat):Int),.bool true,.int .i64 ((p:Nat):Int),.int .u8 ((a:Nat):Int),.int .i64 ((a:Nat):Int),.int .i64 ((i:Nat):Int),.int .i64 ((a*2 ^ i:Nat):Int),.int .i64 ((p ^^^ a*2 ^ i:Nat):Int)] ++ (J j 23 16))))
theorem aMr3p_0 (a b p i:Nat) (j:Nat→Value):evC (yty.en tab0) aMr3p_h (cAt [1,1,0,1,0,0] (bdy Try.f56)) ⟨aMrD_s a b p i j,aMrD_m a b p i,True,[some (.bool true),some (.int .u8 ((b / 2 ^ i:Nat):Int)),some (.int .u8 (((b / 2 ^ i)%2:Nat):Int)),some (.bool true),some (.int .i64 ((a:Nat):Int)),some (.int .i64 ((a*2 ^ i:Nat):Int)),some (.int .i64 ((p ^^^ a*2 ^ i:Nat):Int)),some (.int .i64 ((i+1:Nat):Int))]⟩=some (.normal,⟨aMr3p_b a b p i j,[],(((((((((((((((((True∧True)∧(True∧(decide (((i:Nat):Int)<8))=true))∧True)∧True)∧((0≤((i:Nat):Int))∧(((b:Nat):Int) / 2 ^ (min (Int.toNat ((i:Nat):Int)) 8))=((b / 2 ^ i:Nat):Int)))∧(((2:Int)≠0)∧(Int.tmod ((b / 2 ^ i:Nat):Int) 2)=(((b / 2 ^ i)%2:Nat):Int)))∧(True∧(decide ((((b / 2 ^ i)%2:Nat):Int)=1))=true))∧True)∧True)∧(True∧(IntKind.i64.wrap ((a:Nat):Int))=((a:Nat):Int)))∧True)∧((0≤((i:Nat):Int))∧(IntKind.i64.wrap (((a:Nat):Int)*2 ^ (min (Int.toNat ((i:Nat):Int)) 64)))=((a*2 ^ i:Nat):Int)))∧(True∧(bits .xor .i64 ((p:Nat):Int) ((a*2 ^ i:Nat):Int))=((p ^^^ a*2 ^ i:Nat):Int)))∧True)∧True)∧(True∧(IntKind.i64.wrap (((i:Nat):Int)+1))=((i+1:Nat):Int)))∧True),[]⟩):=by kernel_rfl
theorem aMr3 (a b p i:Nat) (j:Nat→Value) (ha:a<256) (hb:b<256) (hp:p=clN a b i) (hpl:p<2 ^ 17) (hi:i≤8) (hlt:i<8) (hc:b / 2 ^ i%2=1) {c0:Prop} {ch0:List (Option Value)}:Runs Try.prog (cAt [1,1,0,1,0,0] (bdy Try.f56)) ⟨aMrD_s a b p i j,aMrD_m a b p i,c0,ch0⟩ (fun e s=>e= .normal∧∃(j:Nat→Value) (c:Prop) (ch:List (Option Value)),((p ^^^ a*2 ^ i)=clN a b (i+1))∧((p ^^^ a*2 ^ i)<2 ^ 17)∧((i+1)≤8)∧s=⟨aMrD_s a b (p ^^^ a*2 ^ i) (i+1) j,aMrD_m a b (p ^^^ a*2 ^ i) (i+1),c,ch⟩) 0:=by
  have h0:(decide (((i:Nat):Int)<8))=true:=(decide_eq_true (by omega))
  have h1:(decide ((((b / 2 ^ i)%2:Nat):Int)=1))=true:=(decide_eq_true (by omega))
  refine(runs_ev mixed _ (aMr3p_0 a b p i j) ⟨⟨⟨⟨⟨⟨⟨⟨⟨⟨⟨⟨⟨⟨⟨⟨⟨trivial,trivial⟩,⟨trivial,h0⟩⟩,trivial⟩,trivial⟩,⟨(by omega),(by rw[Int.toNat_natCast,Nat.min_eq_left (by omega)];simp)⟩⟩,⟨(by decide),(by exact tmodN (b / 2 ^ i) 2)⟩⟩,⟨trivial,h1⟩⟩,trivial⟩,trivial⟩,⟨trivial,(by rw[IntKind.wrap_i64];omega)⟩⟩,trivial⟩,⟨(by omega),(sh_nat (by omega) (by omega))⟩⟩,⟨trivial,(xi64 _ _ (by omega) (sh_lt (by omega) (by omega)))⟩⟩,trivial⟩,trivial⟩,⟨trivial,(by rw[IntKind.wrap_i64];omega)⟩⟩,trivial⟩).mono ?_
  rintro e s ⟨rfl,hs⟩
  refine⟨rfl,fun q=>s.tm.getD q undef,s.c,s.ch,by rw[clN,if_pos hc,hp],Nat.xor_lt_two_pow hpl (sh_lt (by omega) (by omega)),by omega,?_⟩
  subst hs
  kernel_rfl
def aMr4p_h (i:Nat):Hn:=⟨0,[],[],[],[]⟩
def aMr4p_b (a b p i:Nat) (j:Nat→Value):List Value:=([.int .u8 ((a:Nat):Int),.int .u8 ((b:Nat):Int)] ++ (J j 2 3 ++ ([.int .i64 ((p:Nat):Int),.int .i64 ((i+1:Nat):Int),j 7,.int .i64 ((i:Nat):Int),.bool true,.int .i64 ((i:Nat):Int),.int .i64 ((i+1:Nat):Int),.int .u8 ((b:Nat):Int),.int .i64 ((i:Nat):Int),.int .u8 ((b / 2 ^ i:Nat):Int),.int .u8 (((b / 2 ^ i)%2:Nat):Int),.bool false] ++ (J j 17 22))))
theorem aMr4p_0 (a b p i:Nat) (j:Nat→Value):evC (yty.en tab0) aMr4p_h (cAt [1,1,0,1,0,0] (bdy Try.f56)) ⟨aMrD_s a b p i j,aMrD_m a b p i,True,[some (.bool true),some (.int .u8 ((b / 2 ^ i:Nat):Int)),some (.int .u8 (((b / 2 ^ i)%2:Nat):Int)),some (.bool false),some (.int .i64 ((i+1:Nat):Int))]⟩=some (.normal,⟨aMr4p_b a b p i j,[],((((((((((True∧True)∧(True∧(decide (((i:Nat):Int)<8))=true))∧True)∧True)∧((0≤((i:Nat):Int))∧(((b:Nat):Int) / 2 ^ (min (Int.toNat ((i:Nat):Int)) 8))=((b / 2 ^ i:Nat):Int)))∧(((2:Int)≠0)∧(Int.tmod ((b / 2 ^ i:Nat):Int) 2)=(((b / 2 ^ i)%2:Nat):Int)))∧(True∧(decide ((((b / 2 ^ i)%2:Nat):Int)=1))=false))∧True)∧(True∧(IntKind.i64.wrap (((i:Nat):Int)+1))=((i+1:Nat):Int)))∧True),[]⟩):=by kernel_rfl
theorem aMr4 (a b p i:Nat) (j:Nat→Value) (ha:a<256) (hb:b<256) (hp:p=clN a b i) (hpl:p<2 ^ 17) (hi:i≤8) (hlt:i<8) (hc:¬ b / 2 ^ i%2=1) {c0:Prop} {ch0:List (Option Value)}:Runs Try.prog (cAt [1,1,0,1,0,0] (bdy Try.f56)) ⟨aMrD_s a b p i j,aMrD_m a b p i,c0,ch0⟩ (fun e s=>e= .normal∧∃(j:Nat→Value) (c:Prop) (ch:List (Option Value)),(p=clN a b (i+1))∧((i+1)≤8)∧s=⟨aMrD_s a b p (i+1) j,aMrD_m a b p (i+1),c,ch⟩) 0:=by
  have h0:(decide (((i:Nat):Int)<8))=true:=(decide_eq_true (by omega))
  have h1:(decide ((((b / 2 ^ i)%2:Nat):Int)=1))=false:=(decide_eq_false (by omega))
  refine(runs_ev mixed _ (aMr4p_0 a b p i j) ⟨⟨⟨⟨⟨⟨⟨⟨⟨⟨trivial,trivial⟩,⟨trivial,h0⟩⟩,trivial⟩,trivial⟩,⟨(by omega),(by rw[Int.toNat_natCast,Nat.min_eq_left (by omega)];simp)⟩⟩,⟨(by decide),(by exact tmodN (b / 2 ^ i) 2)⟩⟩,⟨trivial,h1⟩⟩,trivial⟩,⟨trivial,(by rw[IntKind.wrap_i64];omega)⟩⟩,trivial⟩).mono ?_
  rintro e s ⟨rfl,hs⟩
  refine⟨rfl,fun q=>s.tm.getD q undef,s.c,s.ch,by rw[clN,if_neg hc,hp],by omega,?_⟩
  subst hs
  kernel_rfl
theorem aMr5 (a b p i:Nat) (j:Nat→Value) (ha:a<256) (hb:b<256) (hp:p=clN a b i) (hpl:p<2 ^ 17) (hi:i≤8) (hlt:i<8) {c0:Prop} {ch0:List (Option Value)}:Runs Try.prog (cAt [1,1,0,1,0,0] (bdy Try.f56)) ⟨aMrD_s a b p i j,aMrD_m a b p i,c0,ch0⟩ (fun e s=>e= .normal∧∃(z:Nat) (j:Nat→Value) (c:Prop) (ch:List (Option Value)),(z=clN a b (i+1))∧(z<2 ^ 17)∧((i+1)≤8)∧s=⟨aMrD_s a b z (i+1) j,aMrD_m a b z (i+1),c,ch⟩) 0:=by
  by_cases hc:b / 2 ^ i%2=1
  · refine (aMr3 a b p i j ha hb hp hpl hi hlt hc).mono ?_
    rintro e s ⟨rfl,j,c,ch,f2,f3,f4,rfl⟩
    exact⟨rfl,(p ^^^ a*2 ^ i),j,c,ch,f2,f3,f4,rfl⟩
  · refine (aMr4 a b p i j ha hb hp hpl hi hlt hc).mono ?_
    rintro e s ⟨rfl,j,c,ch,f2,f4,rfl⟩
    exact⟨rfl,p,j,c,ch,f2,hpl,f4,rfl⟩
abbrev aMrE_s (a b p i:Nat) (j:Nat→Value):List Value:=([.int .u8 ((a:Nat):Int),.int .u8 ((b:Nat):Int)] ++ (J j 2 3 ++ ([.int .i64 ((p:Nat):Int)] ++ (J j 6 33))))
abbrev aMrE_m (a b p i:Nat):List Mb:= []
def aMr6p_h (i:Nat):Hn:=⟨0,[],[],[],[]⟩
def aMr6p_b (a b p i:Nat) (j:Nat→Value):List Value:=([.int .u8 ((a:Nat):Int),.int .u8 ((b:Nat):Int)] ++ (J j 2 3 ++ ([.int .i64 ((p:Nat):Int),.int .i64 ((i:Nat):Int),j 7,.int .i64 ((i:Nat):Int),.bool false] ++ (J j 10 29))))
theorem aMr6p_0 (a b p i:Nat) (j:Nat→Value):evC (yty.en tab0) aMr6p_h (cAt [1,1,0,1,0,0] (bdy Try.f56)) ⟨aMrD_s a b p i j,aMrD_m a b p i,True,[some (.bool false)]⟩=some ((.exit 0),⟨aMr6p_b a b p i j,[],((True∧True)∧(True∧(decide (((i:Nat):Int)<8))=false)),[]⟩):=by kernel_rfl
theorem aMr6 (a b p i:Nat) (j:Nat→Value) (ha:a<256) (hb:b<256) (hp:p=clN a b i) (hpl:p<2 ^ 17) (hi:i≤8) (hge:¬ i<8) {c0:Prop} {ch0:List (Option Value)}:Runs Try.prog (cAt [1,1,0,1,0,0] (bdy Try.f56)) ⟨aMrD_s a b p i j,aMrD_m a b p i,c0,ch0⟩ (fun e s=>e=(.exit 0)∧∃(j:Nat→Value) (c:Prop) (ch:List (Option Value)),(i=8)∧s=⟨aMrE_s a b p i j,aMrE_m a b p i,c,ch⟩) 0:=by
  have h0:(decide (((i:Nat):Int)<8))=false:=(decide_eq_false (by omega))
  refine(runs_ev mixed _ (aMr6p_0 a b p i j) ⟨⟨trivial,trivial⟩,⟨trivial,h0⟩⟩).mono ?_
  rintro e s ⟨rfl,hs⟩
  refine⟨rfl,fun q=>s.tm.getD q undef,s.c,s.ch,by omega,?_⟩
  subst hs
  kernel_rfl
theorem aMr7L (a:Nat) (b:Nat) (j:Nat→Value) (ha:a<256) (hb:b<256) (ihp:0=clN a b 0) (ihpl:0<2 ^ 17) (ihi:0≤8)  {c0:Prop} {ch0:List (Option Value)}:Runs Try.prog (.loop (cAt [1,1,0,1,0,0] (bdy Try.f56))) ⟨aMrD_s a b 0 0 j,aMrD_m a b 0 0,c0,ch0⟩ (fun e s=>e= .exit 0∧∃(p:Nat) (i:Nat) (j:Nat→Value) (c:Prop) (ch:List (Option Value)),(p=clN a b i)∧(p<2 ^ 17)∧(i=8)∧s=⟨aMrE_s a b p i j,aMrE_m a b p i,c,ch⟩) 0:=by
  refine runs_loop (fun M s=>∃(p:Nat) (i:Nat) (j:Nat→Value) (c:Prop) (ch:List (Option Value)),(p=clN a b i)∧(p<2 ^ 17)∧(i≤8)∧M=8 - i∧s=⟨aMrD_s a b p i j,aMrD_m a b p i,c,ch⟩) (8 - 0) ⟨0,0,j,c0,ch0,ihp,ihpl,ihi,rfl,rfl⟩ ?_
  rintro M s ⟨p,i,j,c,ch,hp,hpl,hi,rfl,rfl⟩
  by_cases hlt:i<8
  · skip
    refine(aMr5 a b p i j ha hb hp hpl hi hlt).mono ?_
    rintro e s ⟨rfl,z_,j,c,ch,f2,f3,f4,rfl⟩
    exact .inl ⟨rfl,8 - (i+1),by omega,⟨z_,(i+1),j,c,ch,f2,f3,f4,rfl,rfl⟩⟩
  · refine (aMr6 a b p i j ha hb hp hpl hi hlt).mono ?_
    intro e s hh
    obtain⟨rfl,j,c,ch,f4,rfl⟩:=hh
    exact .inr ⟨by simp,rfl,p,i,j,c,ch,hp,hpl,f4,rfl⟩
theorem aMr7 (a:Nat) (b:Nat) (j:Nat→Value) (ha:a<256) (hb:b<256) (ihp:0=clN a b 0) (ihpl:0<2 ^ 17) (ihi:0≤8)  {c0:Prop} {ch0:List (Option Value)}:Runs Try.prog (cAt [1,1,0,1] (bdy Try.f56)) ⟨aMrD_s a b 0 0 j,aMrD_m a b 0 0,c0,ch0⟩ (fun e s=>e= .normal∧∃(p:Nat) (i:Nat) (j:Nat→Value) (c:Prop) (ch:List (Option Value)),(p=clN a b i)∧(p<2 ^ 17)∧(i=8)∧s=⟨aMrE_s a b p i j,aMrE_m a b p i,c,ch⟩) 0:=by
  rw[show(cAt [1,1,0,1] (bdy Try.f56))= .block 0 (.loop (cAt [1,1,0,1,0,0] (bdy Try.f56))) from by kernel_rfl]
  refine runs_block (aMr7L a b j ha hb ihp ihpl ihi ) ?_
  rintro e s ⟨rfl,hh⟩
  exact .inl ⟨rfl,rfl,hh⟩
theorem aMr8 (a b:Nat) (j:Nat→Value) (ha:a<256) (hb:b<256)  {c0:Prop} {ch0:List (Option Value)}:Runs Try.prog (cAt [1,1,0] (bdy Try.f56)) ⟨aMrC_s a b j,aMrC_m a b,c0,ch0⟩ (fun e s=>e= .normal∧∃(p1:Nat) (i1:Nat) (j:Nat→Value) (c:Prop) (ch:List (Option Value)),(p1=clN a b i1)∧(p1<2 ^ 17)∧(i1=8)∧s=⟨aMrE_s a b p1 i1 j,aMrE_m a b p1 i1,c,ch⟩) 0:=by
  rw[show(cAt [1,1,0] (bdy Try.f56))=(.seq (cAt [1,1,0,0] (bdy Try.f56)) (cAt [1,1,0,1] (bdy Try.f56))) from by kernel_rfl]
  refine runs_seq (aMr2 a b j ha hb ) (fun s hh=> ?_) (fun e s hne hh=>absurd hh.1 hne)
  obtain⟨_,j,c,ch,f0_2,f0_3,f0_4,rfl⟩:=hh
  refine(aMr7 a b j ha hb f0_2 f0_3 f0_4 ).mono ?_
  rintro e s ⟨rfl,p1,i1,j,c,ch,f1_2,f1_3,f1_4,rfl⟩
  exact⟨rfl,p1,i1,j,c,ch,f1_2,f1_3,f1_4,rfl⟩
abbrev aMrF_s (a b p k:Nat) (j:Nat→Value):List Value:=(J j 0 5 ++ ([.int .i64 ((p:Nat):Int),j 6,.int .i64 ((14 - k:Nat):Int)] ++ (J j 8 31)))
abbrev aMrF_m (a b p k:Nat):List Mb:= []
def aMr9p_h (i:Nat):Hn:=⟨0,[],[],[],[]⟩
def aMr9p_b (a b p i:Nat) (j:Nat→Value):List Value:=([.int .u8 ((a:Nat):Int),.int .u8 ((b:Nat):Int)] ++ (J j 2 3 ++ ([.int .i64 ((p:Nat):Int),j 6,.int .i64 14] ++ (J j 8 31))))
theorem aMr9p_0 (a b p i:Nat) (j:Nat→Value):evC (yty.en tab0) aMr9p_h (cAt [1,1,1,0,0] (bdy Try.f56)) ⟨aMrE_s a b p i j,aMrE_m a b p i,True,[]⟩=some (.normal,⟨aMr9p_b a b p i j,[],(True∧True),[]⟩):=by kernel_rfl
theorem aMr9 (a b p i:Nat) (j:Nat→Value) (ha:a<256) (hb:b<256) (hp:p=clN a b i) (hpl:p<2 ^ 17) (hi:i=8)  {c0:Prop} {ch0:List (Option Value)}:Runs Try.prog (cAt [1,1,1,0,0] (bdy Try.f56)) ⟨aMrE_s a b p i j,aMrE_m a b p i,c0,ch0⟩ (fun e s=>e= .normal∧∃(j:Nat→Value) (c:Prop) (ch:List (Option Value)),(p=rdN (clN a b 8) 0)∧(0≤7)∧s=⟨aMrF_s a b p 0 j,aMrF_m a b p 0,c,ch⟩) 0:=by
  refine(runs_ev mixed _ (aMr9p_0 a b p i j) ⟨trivial,trivial⟩).mono ?_
  rintro e s ⟨rfl,hs⟩
  refine⟨rfl,fun q=>s.tm.getD q undef,s.c,s.ch,by rw[hp,hi];rfl,by omega,?_⟩
  subst hs
  kernel_rfl
def aMrap_h (i:Nat):Hn:=⟨0,[],[],[],[]⟩
def aMrap_b (a b p k:Nat) (j:Nat→Value):List Value:=(J j 0 5 ++ ([.int .i64 ((p ^^^ 283*2 ^ (14 - k - 8):Nat):Int),j 6,.int .i64 ((14 - k - 1:Nat):Int)] ++ (J j 8 15 ++ ([.int .i64 ((14 - k:Nat):Int),.bool true,.int .i64 ((14 - k:Nat):Int),.int .i64 ((14 - k - 1:Nat):Int),.int .i64 ((p:Nat):Int),.int .i64 ((14 - k:Nat):Int),.int .i64 ((p / 2 ^ (14 - k):Nat):Int),.int .i64 (((p / 2 ^ (14 - k))%2:Nat):Int),.bool true,.int .i64 ((p:Nat):Int),.int .i64 ((14 - k:Nat):Int),.int .i64 ((14 - k - 8:Nat):Int),.int .i64 ((283*2 ^ (14 - k - 8):Nat):Int),.int .i64 ((p ^^^ 283*2 ^ (14 - k - 8):Nat):Int),j 37,j 38]))))
theorem aMrap_0 (a b p k:Nat) (j:Nat→Value):evC (yty.en tab0) aMrap_h (cAt [1,1,1,0,1,0,0] (bdy Try.f56)) ⟨aMrF_s a b p k j,aMrF_m a b p k,True,[some (.bool true),some (.int .i64 ((p / 2 ^ (14 - k):Nat):Int)),some (.int .i64 (((p / 2 ^ (14 - k))%2:Nat):Int)),some (.bool true),some (.int .i64 ((14 - k - 8:Nat):Int)),some (.int .i64 ((283*2 ^ (14 - k - 8):Nat):Int)),some (.int .i64 ((p ^^^ 283*2 ^ (14 - k - 8):Nat):Int)),some (.int .i64 ((14 - k - 1:Nat):Int))]⟩=some (.normal,⟨aMrap_b a b p k j,[],((((((((((((((((True∧True)∧(True∧(decide (8≤((14 - k:Nat):Int)))=true))∧True)∧True)∧((0≤((14 - k:Nat):Int))∧(((p:Nat):Int) / 2 ^ (min (Int.toNat ((14 - k:Nat):Int)) 64))=((p / 2 ^ (14 - k):Nat):Int)))∧(((2:Int)≠0)∧(Int.tmod ((p / 2 ^ (14 - k):Nat):Int) 2)=(((p / 2 ^ (14 - k))%2:Nat):Int)))∧(True∧(decide ((((p / 2 ^ (14 - k))%2:Nat):Int)=1))=true))∧True)∧True)∧(True∧(IntKind.i64.wrap (((14 - k:Nat):Int) - 8))=((14 - k - 8:Nat):Int)))∧((0≤((14 - k - 8:Nat):Int))∧(IntKind.i64.wrap (283*2 ^ (min (Int.toNat ((14 - k - 8:Nat):Int)) 64)))=((283*2 ^ (14 - k - 8):Nat):Int)))∧(True∧(bits .xor .i64 ((p:Nat):Int) ((283*2 ^ (14 - k - 8):Nat):Int))=((p ^^^ 283*2 ^ (14 - k - 8):Nat):Int)))∧True)∧True)∧(True∧(IntKind.i64.wrap (((14 - k:Nat):Int) - 1))=((14 - k - 1:Nat):Int)))∧True),[]⟩):=by kernel_rfl
theorem aMra (a b p k:Nat) (j:Nat→Value) (ha:a<256) (hb:b<256) (hp:p=rdN (clN a b 8) k) (hpl:p<2 ^ 17) (hk:k≤7) (hlt:k<7) (hc:p / 2 ^ (14 - k)%2=1) {c0:Prop} {ch0:List (Option Value)}:Runs Try.prog (cAt [1,1,1,0,1,0,0] (bdy Try.f56)) ⟨aMrF_s a b p k j,aMrF_m a b p k,c0,ch0⟩ (fun e s=>e= .normal∧∃(j:Nat→Value) (c:Prop) (ch:List (Option Value)),((p ^^^ 283*2 ^ (14 - k - 8))=rdN (clN a b 8) (k+1))∧((p ^^^ 283*2 ^ (14 - k - 8))<2 ^ 17)∧((k+1)≤7)∧s=⟨aMrF_s a b (p ^^^ 283*2 ^ (14 - k - 8)) (k+1) j,aMrF_m a b (p ^^^ 283*2 ^ (14 - k - 8)) (k+1),c,ch⟩) 0:=by
  have h0:(decide (8≤((14 - k:Nat):Int)))=true:=(decide_eq_true (by omega))
  have h1:(decide ((((p / 2 ^ (14 - k))%2:Nat):Int)=1))=true:=(decide_eq_true (by omega))
  refine(runs_ev mixed _ (aMrap_0 a b p k j) ⟨⟨⟨⟨⟨⟨⟨⟨⟨⟨⟨⟨⟨⟨⟨⟨trivial,trivial⟩,⟨trivial,h0⟩⟩,trivial⟩,trivial⟩,⟨(by omega),(by rw[Int.toNat_natCast,Nat.min_eq_left (by omega)];simp)⟩⟩,⟨(by decide),(by exact tmodN (p / 2 ^ (14 - k)) 2)⟩⟩,⟨trivial,h1⟩⟩,trivial⟩,trivial⟩,⟨trivial,(by rw[IntKind.wrap_i64];omega)⟩⟩,⟨(by omega),(sh_nat (a:=283) (by omega) (by omega))⟩⟩,⟨trivial,(xi64 _ _ (by omega) (sh_lt (by omega) (by omega)))⟩⟩,trivial⟩,trivial⟩,⟨trivial,(by rw[IntKind.wrap_i64];omega)⟩⟩,trivial⟩).mono ?_
  rintro e s ⟨rfl,hs⟩
  refine⟨rfl,fun q=>s.tm.getD q undef,s.c,s.ch,by rw[rdN,← hp,if_pos hc],Nat.xor_lt_two_pow hpl (sh_lt (by omega) (by omega)),by omega,?_⟩
  subst hs
  kernel_rfl
def aMrbp_h (i:Nat):Hn:=⟨0,[],[],[],[]⟩
def aMrbp_b (a b p k:Nat) (j:Nat→Value):List Value:=(J j 0 5 ++ ([.int .i64 ((p:Nat):Int),j 6,.int .i64 ((14 - k - 1:Nat):Int)] ++ (J j 8 15 ++ ([.int .i64 ((14 - k:Nat):Int),.bool true,.int .i64 ((14 - k:Nat):Int),.int .i64 ((14 - k - 1:Nat):Int),.int .i64 ((p:Nat):Int),.int .i64 ((14 - k:Nat):Int),.int .i64 ((p / 2 ^ (14 - k):Nat):Int),.int .i64 (((p / 2 ^ (14 - k))%2:Nat):Int),.bool false] ++ (J j 32 7)))))
theorem aMrbp_0 (a b p k:Nat) (j:Nat→Value):evC (yty.en tab0) aMrbp_h (cAt [1,1,1,0,1,0,0] (bdy Try.f56)) ⟨aMrF_s a b p k j,aMrF_m a b p k,True,[some (.bool true),some (.int .i64 ((p / 2 ^ (14 - k):Nat):Int)),some (.int .i64 (((p / 2 ^ (14 - k))%2:Nat):Int)),some (.bool false),some (.int .i64 ((14 - k - 1:Nat):Int))]⟩=some (.normal,⟨aMrbp_b a b p k j,[],((((((((((True∧True)∧(True∧(decide (8≤((14 - k:Nat):Int)))=true))∧True)∧True)∧((0≤((14 - k:Nat):Int))∧(((p:Nat):Int) / 2 ^ (min (Int.toNat ((14 - k:Nat):Int)) 64))=((p / 2 ^ (14 - k):Nat):Int)))∧(((2:Int)≠0)∧(Int.tmod ((p / 2 ^ (14 - k):Nat):Int) 2)=(((p / 2 ^ (14 - k))%2:Nat):Int)))∧(True∧(decide ((((p / 2 ^ (14 - k))%2:Nat):Int)=1))=false))∧True)∧(True∧(IntKind.i64.wrap (((14 - k:Nat):Int) - 1))=((14 - k - 1:Nat):Int)))∧True),[]⟩):=by kernel_rfl
theorem aMrb (a b p k:Nat) (j:Nat→Value) (ha:a<256) (hb:b<256) (hp:p=rdN (clN a b 8) k) (hpl:p<2 ^ 17) (hk:k≤7) (hlt:k<7) (hc:¬ p / 2 ^ (14 - k)%2=1) {c0:Prop} {ch0:List (Option Value)}:Runs Try.prog (cAt [1,1,1,0,1,0,0] (bdy Try.f56)) ⟨aMrF_s a b p k j,aMrF_m a b p k,c0,ch0⟩ (fun e s=>e= .normal∧∃(j:Nat→Value) (c:Prop) (ch:List (Option Value)),(p=rdN (clN a b 8) (k+1))∧((k+1)≤7)∧s=⟨aMrF_s a b p (k+1) j,aMrF_m a b p (k+1),c,ch⟩) 0:=by
  have h0:(decide (8≤((14 - k:Nat):Int)))=true:=(decide_eq_true (by omega))
  have h1:(decide ((((p / 2 ^ (14 - k))%2:Nat):Int)=1))=false:=(decide_eq_false (by omega))
  refine(runs_ev mixed _ (aMrbp_0 a b p k j) ⟨⟨⟨⟨⟨⟨⟨⟨⟨⟨trivial,trivial⟩,⟨trivial,h0⟩⟩,trivial⟩,trivial⟩,⟨(by omega),(by rw[Int.toNat_natCast,Nat.min_eq_left (by omega)];simp)⟩⟩,⟨(by decide),(by exact tmodN (p / 2 ^ (14 - k)) 2)⟩⟩,⟨trivial,h1⟩⟩,trivial⟩,⟨trivial,(by rw[IntKind.wrap_i64];omega)⟩⟩,trivial⟩).mono ?_
  rintro e s ⟨rfl,hs⟩
  refine⟨rfl,fun q=>s.tm.getD q undef,s.c,s.ch,by rw[rdN,← hp,if_neg hc],by omega,?_⟩
  subst hs
  kernel_rfl
theorem aMrc (a b p k:Nat) (j:Nat→Value) (ha:a<256) (hb:b<256) (hp:p=rdN (clN a b 8) k) (hpl:p<2 ^ 17) (hk:k≤7) (hlt:k<7) {c0:Prop} {ch0:List (Option Value)}:Runs Try.prog (cAt [1,1,1,0,1,0,0] (bdy Try.f56)) ⟨aMrF_s a b p k j,aMrF_m a b p k,c0,ch0⟩ (fun e s=>e= .normal∧∃(z:Nat) (j:Nat→Value) (c:Prop) (ch:List (Option Value)),(z=rdN (clN a b 8) (k+1))∧(z<2 ^ 17)∧((k+1)≤7)∧s=⟨aMrF_s a b z (k+1) j,aMrF_m a b z (k+1),c,ch⟩) 0:=by
  by_cases hc:p / 2 ^ (14 - k)%2=1
  · refine (aMra a b p k j ha hb hp hpl hk hlt hc).mono ?_
    rintro e s ⟨rfl,j,c,ch,f2,f3,f4,rfl⟩
    exact⟨rfl,(p ^^^ 283*2 ^ (14 - k - 8)),j,c,ch,f2,f3,f4,rfl⟩
  · refine (aMrb a b p k j ha hb hp hpl hk hlt hc).mono ?_
    rintro e s ⟨rfl,j,c,ch,f2,f4,rfl⟩
    exact⟨rfl,p,j,c,ch,f2,hpl,f4,rfl⟩
abbrev aMrG_s (a b p k:Nat) (j:Nat→Value):List Value:=(J j 0 5 ++ ([.int .i64 ((p:Nat):Int)] ++ (J j 6 33)))
abbrev aMrG_m (a b p k:Nat):List Mb:= []
def aMrdp_h (i:Nat):Hn:=⟨0,[],[],[],[]⟩
def aMrdp_b (a b p k:Nat) (j:Nat→Value):List Value:=(J j 0 5 ++ ([.int .i64 ((p:Nat):Int),j 6,.int .i64 ((14 - k:Nat):Int)] ++ (J j 8 15 ++ ([.int .i64 ((14 - k:Nat):Int),.bool false] ++ (J j 25 14)))))
theorem aMrdp_0 (a b p k:Nat) (j:Nat→Value):evC (yty.en tab0) aMrdp_h (cAt [1,1,1,0,1,0,0] (bdy Try.f56)) ⟨aMrF_s a b p k j,aMrF_m a b p k,True,[some (.bool false)]⟩=some ((.exit 2),⟨aMrdp_b a b p k j,[],((True∧True)∧(True∧(decide (8≤((14 - k:Nat):Int)))=false)),[]⟩):=by kernel_rfl
theorem aMrd (a b p k:Nat) (j:Nat→Value) (ha:a<256) (hb:b<256) (hp:p=rdN (clN a b 8) k) (hpl:p<2 ^ 17) (hk:k≤7) (hge:¬ k<7) {c0:Prop} {ch0:List (Option Value)}:Runs Try.prog (cAt [1,1,1,0,1,0,0] (bdy Try.f56)) ⟨aMrF_s a b p k j,aMrF_m a b p k,c0,ch0⟩ (fun e s=>e=(.exit 2)∧∃(j:Nat→Value) (c:Prop) (ch:List (Option Value)),(k=7)∧s=⟨aMrG_s a b p k j,aMrG_m a b p k,c,ch⟩) 0:=by
  have h0:(decide (8≤((14 - k:Nat):Int)))=false:=(decide_eq_false (by omega))
  refine(runs_ev mixed _ (aMrdp_0 a b p k j) ⟨⟨trivial,trivial⟩,⟨trivial,h0⟩⟩).mono ?_
  rintro e s ⟨rfl,hs⟩
  refine⟨rfl,fun q=>s.tm.getD q undef,s.c,s.ch,by omega,?_⟩
  subst hs
  kernel_rfl
theorem aMreL (a:Nat) (b:Nat) (p:Nat) (j:Nat→Value) (ha:a<256) (hb:b<256) (ihp:p=rdN (clN a b 8) 0) (ihpl:p<2 ^ 17) (ihk:0≤7)  {c0:Prop} {ch0:List (Option Value)}:Runs Try.prog (.loop (cAt [1,1,1,0,1,0,0] (bdy Try.f56))) ⟨aMrF_s a b p 0 j,aMrF_m a b p 0,c0,ch0⟩ (fun e s=>e= .exit 2∧∃(p:Nat) (k:Nat) (j:Nat→Value) (c:Prop) (ch:List (Option Value)),(p=rdN (clN a b 8) k)∧(p<2 ^ 17)∧(k=7)∧s=⟨aMrG_s a b p k j,aMrG_m a b p k,c,ch⟩) 0:=by
  refine runs_loop (fun M s=>∃(p:Nat) (k:Nat) (j:Nat→Value) (c:Prop) (ch:List (Option Value)),(p=rdN (clN a b 8) k)∧(p<2 ^ 17)∧(k≤7)∧M=7 - k∧s=⟨aMrF_s a b p k j,aMrF_m a b p k,c,ch⟩) (7 - 0) ⟨p,0,j,c0,ch0,ihp,ihpl,ihk,rfl,rfl⟩ ?_
  rintro M s ⟨p,k,j,c,ch,hp,hpl,hk,rfl,rfl⟩
  by_cases hlt:k<7
  · skip
    refine(aMrc a b p k j ha hb hp hpl hk hlt).mono ?_
    rintro e s ⟨rfl,z_,j,c,ch,f2,f3,f4,rfl⟩
    exact .inl ⟨rfl,7 - (k+1),by omega,⟨z_,(k+1),j,c,ch,f2,f3,f4,rfl,rfl⟩⟩
  · refine (aMrd a b p k j ha hb hp hpl hk hlt).mono ?_
    intro e s hh
    obtain⟨rfl,j,c,ch,f4,rfl⟩:=hh
    exact .inr ⟨by simp,rfl,p,k,j,c,ch,hp,hpl,f4,rfl⟩
theorem aMre (a:Nat) (b:Nat) (p:Nat) (j:Nat→Value) (ha:a<256) (hb:b<256) (ihp:p=rdN (clN a b 8) 0) (ihpl:p<2 ^ 17) (ihk:0≤7)  {c0:Prop} {ch0:List (Option Value)}:Runs Try.prog (cAt [1,1,1,0,1] (bdy Try.f56)) ⟨aMrF_s a b p 0 j,aMrF_m a b p 0,c0,ch0⟩ (fun e s=>e= .normal∧∃(p:Nat) (k:Nat) (j:Nat→Value) (c:Prop) (ch:List (Option Value)),(p=rdN (clN a b 8) k)∧(p<2 ^ 17)∧(k=7)∧s=⟨aMrG_s a b p k j,aMrG_m a b p k,c,ch⟩) 0:=by
  rw[show(cAt [1,1,1,0,1] (bdy Try.f56))= .block 2 (.loop (cAt [1,1,1,0,1,0,0] (bdy Try.f56))) from by kernel_rfl]
  refine runs_block (aMreL a b p j ha hb ihp ihpl ihk ) ?_
  rintro e s ⟨rfl,hh⟩
  exact .inl ⟨rfl,rfl,hh⟩
theorem aMrf (a b p i:Nat) (j:Nat→Value) (ha:a<256) (hb:b<256) (hp:p=clN a b i) (hpl:p<2 ^ 17) (hi:i=8)  {c0:Prop} {ch0:List (Option Value)}:Runs Try.prog (cAt [1,1,1,0] (bdy Try.f56)) ⟨aMrE_s a b p i j,aMrE_m a b p i,c0,ch0⟩ (fun e s=>e= .normal∧∃(p1:Nat) (k1:Nat) (j:Nat→Value) (c:Prop) (ch:List (Option Value)),(p1=rdN (clN a b 8) k1)∧(p1<2 ^ 17)∧(k1=7)∧s=⟨aMrG_s a b p1 k1 j,aMrG_m a b p1 k1,c,ch⟩) 0:=by
  rw[show(cAt [1,1,1,0] (bdy Try.f56))=(.seq (cAt [1,1,1,0,0] (bdy Try.f56)) (cAt [1,1,1,0,1] (bdy Try.f56))) from by kernel_rfl]
  refine runs_seq (aMr9 a b p i j ha hb hp hpl hi ) (fun s hh=> ?_) (fun e s hne hh=>absurd hh.1 hne)
  obtain⟨_,j,c,ch,f0_2,f0_4,rfl⟩:=hh
  refine(aMre a b p j ha hb f0_2 hpl f0_4 ).mono ?_
  rintro e s ⟨rfl,p1,k1,j,c,ch,f1_2,f1_3,f1_4,rfl⟩
  exact⟨rfl,p1,k1,j,c,ch,f1_2,f1_3,f1_4,rfl⟩
abbrev aMrH_s (a b p k:Nat) (j:Nat→Value):List Value:=(J j 0 4 ++ ([.int .u8 ((p%256:Nat):Int)] ++ (J j 5 34)))
abbrev aMrH_m (a b p k:Nat):List Mb:= []
def aMrgp_h (i:Nat):Hn:=⟨0,[],[],[],[]⟩
def aMrgp_b (a b p k:Nat) (j:Nat→Value):List Value:=(J j 0 4 ++ ([.int .u8 ((p%256:Nat):Int),.int .i64 ((p:Nat):Int)] ++ (J j 6 31 ++ ([.int .i64 ((p:Nat):Int),.int .u8 ((p%256:Nat):Int)]))))
theorem aMrgp_0 (a b p k:Nat) (j:Nat→Value):evC (yty.en tab0) aMrgp_h (cAt [1,1,1,1] (bdy Try.f56)) ⟨aMrG_s a b p k j,aMrG_m a b p k,True,[some (.int .u8 ((p%256:Nat):Int))]⟩=some (.ret,⟨aMrgp_b a b p k j,[],(((True∧True)∧(True∧(IntKind.u8.wrap ((p:Nat):Int))=((p%256:Nat):Int)))∧True),[]⟩):=by kernel_rfl
theorem aMrg (a b p k:Nat) (j:Nat→Value) (ha:a<256) (hb:b<256) (hp:p=rdN (clN a b 8) k) (hpl:p<2 ^ 17) (hk:k=7)  {c0:Prop} {ch0:List (Option Value)}:Runs Try.prog (cAt [1,1,1,1] (bdy Try.f56)) ⟨aMrG_s a b p k j,aMrG_m a b p k,c0,ch0⟩ (fun e s=>e= .ret∧∃(j:Nat→Value) (c:Prop) (ch:List (Option Value)),s=⟨aMrH_s a b p k j,aMrH_m a b p k,c,ch⟩) 0:=by
  refine(runs_ev mixed _ (aMrgp_0 a b p k j) ⟨⟨⟨trivial,trivial⟩,⟨trivial,(by rw[IntKind.wrap_u8];omega)⟩⟩,trivial⟩).mono ?_
  rintro e s ⟨rfl,hs⟩
  refine⟨rfl,fun q=>s.tm.getD q undef,s.c,s.ch,?_⟩
  subst hs
  kernel_rfl
theorem aMru (a b:Nat) (j:Nat→Value) (ha:a<256) (hb:b<256)  {c0:Prop} {ch0:List (Option Value)}:Runs Try.prog (cAt [] (bdy Try.f56)) ⟨aMrA_s a b j,aMrA_m a b,c0,ch0⟩ (fun e s=>e= .ret∧∃(p12:Nat) (i12:Nat) (p13:Nat) (k13:Nat) (j:Nat→Value) (c:Prop) (ch:List (Option Value)),(p13=rdN (clN a b 8) k13)∧(p13<2 ^ 17)∧(k13=7)∧s=⟨aMrH_s a b p13 k13 j,aMrH_m a b p13 k13,c,ch⟩) 0:=by
  rw[show(cAt [] (bdy Try.f56))=(.seq (cAt [0] (bdy Try.f56)) (.seq (cAt [1,0] (bdy Try.f56)) (.seq (cAt [1,1,0] (bdy Try.f56)) (.seq (cAt [1,1,1,0] (bdy Try.f56)) (cAt [1,1,1,1] (bdy Try.f56)))))) from by kernel_rfl]
  refine runs_seq (aMr0 a b j ha hb ) (fun s hh=> ?_) (fun e s hne hh=>absurd hh.1 hne)
  obtain⟨_,j,c,ch,rfl⟩:=hh
  refine runs_seq (aMr1 a b j ha hb ) (fun s hh=> ?_) (fun e s hne hh=>absurd hh.1 hne)
  obtain⟨_,j,c,ch,rfl⟩:=hh
  refine runs_seq (aMr8 a b j ha hb ) (fun s hh=> ?_) (fun e s hne hh=>absurd hh.1 hne)
  obtain⟨_,p12,i12,j,c,ch,f2_2,f2_3,f2_4,rfl⟩:=hh
  refine runs_seq (aMrf a b p12 i12 j ha hb f2_2 f2_3 f2_4 ) (fun s hh=> ?_) (fun e s hne hh=>absurd hh.1 hne)
  obtain⟨_,p13,k13,j,c,ch,f3_2,f3_3,f3_4,rfl⟩:=hh
  refine(aMrg a b p13 k13 j ha hb f3_2 f3_3 f3_4 ).mono ?_
  rintro e s ⟨rfl,j,c,ch,rfl⟩
  exact⟨rfl,p12,i12,p13,k13,j,c,ch,f3_2,f3_3,f3_4,rfl⟩
theorem aMr_c (a b:Nat) (ha:a<256) (hb:b<256):Pure Try.prog 56 #[.int .u8 ((a:Nat):Int),.int .u8 ((b:Nat):Int)] (.int .u8 ((mR a b:Nat):Int)):=by
  refine pure_runs (E:=(yty.en tab0)) Try.func56 (c:=bdy Try.f56) (by kernel_rfl) (args:= [.int .u8 ((a:Nat):Int),.int .u8 ((b:Nat):Int)]) (by kernel_rfl) (K:=fun e s=>e= .ret∧resS (yty.en tab0) s Try.f56.results.toList=some [.int .u8 ((mR a b:Nat):Int)]) ?_ (fun e s h=>⟨h.1,_,h.2,rfl⟩)
  refine(aMru a b (fun _=>undef) ha hb).mono ?_
  rintro e s ⟨rfl,hh⟩
  obtain⟨p0,i0,p,k,j,c,ch,hp,hpl,hk,rfl⟩:=hh
  have h:mR a b=p%256:=by unfold mR;rw[hp,hk]
  rw[h]
  exact⟨rfl,by kernel_rfl⟩
theorem Mr_c (x y:Int) (h:B2 x y):Pure Try.prog 56 #[.int .u8 x,.int .u8 y] (.int .u8 (mv x y)):=by
  have h1:=aMr_c x.toNat y.toNat (by have:=h.1;omega) (by have:=h.2;omega)
  rw[Int.toNat_of_nonneg h.1.1,Int.toNat_of_nonneg h.2.1,mR_eq (by have:=h.1;omega) (by have:=h.2;omega)] at h1
  exact h1
def pmr:Entry Try.prog:=ent2C Try.func56 (by kernel_rfl) (by kernel_rfl) (fun x y=> .int .u8 (mv x y)) B2 (k:= .u8) (k':= .u8) Mr_c
def tabE1:List (Entry Try.prog):=pmr :: []
end Go.Proofs.Ythldpfindbhkeaa
