import Derived.Test.YthldpfindbhkeaaZSPvalAeE
set_option linter.unusedSimpArgs false
set_option linter.unusedVariables false
/-! aes: the document's inverse, substitute, table. -/
namespace Go.Proofs.Ythldpfindbhkeaa
open Go.RowKit Go.Ev
def invT:List Nat:= [0,1,141,246,203,82,123,209,232,79,41,192,176,225,229,199,116,180,170,75,153,43,96,95,88,63,253,204,255,64,238,178,58,110,90,241,85,77,168,201,193,10,152,21,48,68,162,194,44,69,146,108,243,57,102,66,242,53,32,111,119,187,89,25,29,254,55,103,45,49,245,105,167,100,171,19,84,37,233,9,237,92,5,202,76,36,135,191,24,62,34,240,81,236,97,23,22,94,175,211,73,166,54,67,244,71,145,223,51,147,33,59,121,183,151,133,16,181,186,60,182,112,208,6,161,250,129,130,131,126,127,128,150,115,190,86,155,158,149,217,247,2,185,164,222,106,50,109,216,138,132,114,42,20,159,136,249,220,137,154,251,124,46,195,143,184,101,72,38,200,18,74,206,231,210,98,12,224,31,239,17,117,120,113,165,142,118,61,189,188,134,87,11,40,47,163,218,212,228,15,169,39,83,4,27,252,172,230,122,7,174,99,197,219,226,234,148,139,196,213,157,248,144,107,177,13,214,235,198,14,207,173,8,78,215,227,93,80,30,179,91,35,56,52,104,70,3,140,221,156,125,160,205,26,65,28]
def invN (a:Nat):Nat:=invT.getD a 0
theorem ivN_ok:∀ a:Fin 256,invN a.1<256∧(a.1=0∨mu a.1 (invN a.1)=1):=by decide+kernel
theorem ivN_is {a i:Nat} (ha:a<256) (hi:i<256) (h:mu a i=1):invN a=i:=by
  obtain⟨h1,h2⟩:=ivN_ok ⟨a,ha⟩
  simp only at h1 h2
  have h0:a≠0:=by rintro rfl;rw[mu_0a] at h;cases h
  have h2:=h2.resolve_left h0
  have e:mu i (mu a (invN a))=mu (mu i a) (invN a):=(mu_assoc hi ha h1).symm
  rw[h2,mu_one hi,mu_comm hi ha,h,mu_comm (by decide) h1,mu_one h1] at e
  exact e.symm
theorem ivN_no {a:Nat} (ha:a<256) (h:∀ j,j<256→mu a j≠1):invN a=0:=by
  obtain⟨h1,h2⟩:=ivN_ok ⟨a,ha⟩
  rcases h2 with h2|h2
  · simp only at h2;subst h2;rfl
  · exact absurd h2 (h _ h1)
def iv8 (x:Int):Int:=((invN x.toNat:Nat):Int)
abbrev aIvA_s (x:Int) (j:Nat→Value):List Value:=([.int .u8 x] ++ (JU 14))
abbrev aIvA_m (x:Int):List Mb:= []
abbrev aIvB_s (x:Int) (j:Nat→Value):List Value:=([.int .u8 x] ++ (J j 1 14))
abbrev aIvB_m (x:Int):List Mb:= []
def aIv0p_h (i:Nat):Hn:=⟨0,[],[],[],[]⟩
def aIv0p_b (x:Int) (j:Nat→Value):List Value:=([.int .u8 x,undef,.int .u8 0] ++ (JU 12))
theorem aIv0p_0 (x:Int) (j:Nat→Value):evC (yty.en tabE1) aIv0p_h (cAt [0] (bdy Try.f54)) ⟨aIvA_s x j,aIvA_m x,True,[]⟩=some (.normal,⟨aIv0p_b x j,[],(True∧True),[]⟩):=by kernel_rfl
theorem aIv0 (x:Int) (j:Nat→Value) (hx:0≤x∧x<256)  {c0:Prop} {ch0:List (Option Value)}:Runs Try.prog (cAt [0] (bdy Try.f54)) ⟨aIvA_s x j,aIvA_m x,c0,ch0⟩ (fun e s=>e= .normal∧∃(j:Nat→Value) (c:Prop) (ch:List (Option Value)),s=⟨aIvB_s x j,aIvB_m x,c,ch⟩) 0:=by
  refine(runs_ev mixed _ (aIv0p_0 x j) ⟨trivial,trivial⟩).mono ?_
  rintro e s ⟨rfl,hs⟩
  refine⟨rfl,fun q=>s.tm.getD q undef,s.c,s.ch,?_⟩
  subst hs
  kernel_rfl
abbrev aIvC_s (x:Int) (i:Nat) (j:Nat→Value):List Value:=([.int .u8 x,j 1,j 2,.int .i64 ((i:Nat):Int)] ++ (J j 4 11))
abbrev aIvC_m (x:Int) (i:Nat):List Mb:= []
def aIv1p_h (i:Nat):Hn:=⟨0,[],[],[],[]⟩
def aIv1p_b (x:Int) (j:Nat→Value):List Value:=([.int .u8 x,j 1,j 2,.int .i64 0] ++ (J j 4 11))
theorem aIv1p_0 (x:Int) (j:Nat→Value):evC (yty.en tabE1) aIv1p_h (cAt [1,0,0] (bdy Try.f54)) ⟨aIvB_s x j,aIvB_m x,True,[]⟩=some (.normal,⟨aIv1p_b x j,[],(True∧True),[]⟩):=by kernel_rfl
theorem aIv1 (x:Int) (j:Nat→Value) (hx:0≤x∧x<256)  {c0:Prop} {ch0:List (Option Value)}:Runs Try.prog (cAt [1,0,0] (bdy Try.f54)) ⟨aIvB_s x j,aIvB_m x,c0,ch0⟩ (fun e s=>e= .normal∧∃(j:Nat→Value) (c:Prop) (ch:List (Option Value)),(∀ j,j<0→mu x.toNat j≠1)∧(0≤256)∧s=⟨aIvC_s x 0 j,aIvC_m x 0,c,ch⟩) 0:=by
  refine(runs_ev mixed _ (aIv1p_0 x j) ⟨trivial,trivial⟩).mono ?_
  rintro e s ⟨rfl,hs⟩
  refine⟨rfl,fun q=>s.tm.getD q undef,s.c,s.ch,fun j h=>by omega,by omega,?_⟩
  subst hs
  kernel_rfl
theorem mvi {x:Int} {i:Nat} (hi:i<256):mv x ((i%256:Nat):Int)=((mu x.toNat i:Nat):Int):=by
  unfold mv
  rw[Int.toNat_natCast,Nat.mod_eq_of_lt hi]
def aIv2p_h (i:Nat):Hn:=⟨0,[],[],[],[]⟩
def aIv2p_b (x:Int) (i:Nat) (j:Nat→Value):List Value:=([.int .u8 x,j 1,j 2,.int .i64 ((i+1:Nat):Int),.int .i64 ((i:Nat):Int),.bool true,.int .i64 ((i:Nat):Int),.int .i64 ((i+1:Nat):Int),.int .u8 x,.int .i64 ((i:Nat):Int),.int .u8 ((i%256:Nat):Int),.int .u8 (mv x ((i%256:Nat):Int)),.bool false,j 13,j 14])
theorem aIv2p_0 (x:Int) (i:Nat) (j:Nat→Value):evC (yty.en tabE1) aIv2p_h (cAt [1,0,1,0,0] (bdy Try.f54)) ⟨aIvC_s x i j,aIvC_m x i,True,[some (.bool true),some (.int .u8 ((i%256:Nat):Int)),some (.bool false),some (.int .i64 ((i+1:Nat):Int))]⟩=some (.normal,⟨aIv2p_b x i j,[],((((((((((True∧True)∧(True∧(decide (((i:Nat):Int)<256))=true))∧True)∧True)∧(True∧(IntKind.u8.wrap ((i:Nat):Int))=((i%256:Nat):Int)))∧((IntKind.u8=IntKind.u8∧IntKind.u8=IntKind.u8)∧B2 x ((i%256:Nat):Int)))∧(True∧(decide ((mv x ((i%256:Nat):Int))=1))=false))∧True)∧(True∧(IntKind.i64.wrap (((i:Nat):Int)+1))=((i+1:Nat):Int)))∧True),[]⟩):=by kernel_rfl
theorem aIv2 (x:Int) (i:Nat) (j:Nat→Value) (hx:0≤x∧x<256) (hno:∀ j,j<i→mu x.toNat j≠1) (hi:i≤256) (hlt:i<256) (hc:¬ mv x ((i%256:Nat):Int)=1) {c0:Prop} {ch0:List (Option Value)}:Runs Try.prog (cAt [1,0,1,0,0] (bdy Try.f54)) ⟨aIvC_s x i j,aIvC_m x i,c0,ch0⟩ (fun e s=>e= .normal∧∃(j:Nat→Value) (c:Prop) (ch:List (Option Value)),(∀ j,j<(i+1)→mu x.toNat j≠1)∧((i+1)≤256)∧s=⟨aIvC_s x (i+1) j,aIvC_m x (i+1),c,ch⟩) 0:=by
  have h0:(decide (((i:Nat):Int)<256))=true:=(decide_eq_true (by omega))
  have h1:(decide ((mv x ((i%256:Nat):Int))=1))=false:=(decide_eq_false hc)
  refine(runs_ev mixed _ (aIv2p_0 x i j) ⟨⟨⟨⟨⟨⟨⟨⟨⟨⟨trivial,trivial⟩,⟨trivial,h0⟩⟩,trivial⟩,trivial⟩,⟨trivial,(by rw[IntKind.wrap_u8];omega)⟩⟩,⟨⟨rfl,rfl⟩,⟨hx,by omega,by omega⟩⟩⟩,⟨trivial,h1⟩⟩,trivial⟩,⟨trivial,(by rw[IntKind.wrap_i64];omega)⟩⟩,trivial⟩).mono ?_
  rintro e s ⟨rfl,hs⟩
  refine⟨rfl,fun q=>s.tm.getD q undef,s.c,s.ch,fun j hj=>by
    by_cases e:j=i
    · subst e;rw[mvi hlt] at hc;omega
    · exact hno j (by omega),by omega,?_⟩
  subst hs
  kernel_rfl
abbrev aIvD_s (x:Int) (i:Nat) (j:Nat→Value):List Value:=([j 0,j 1,.int .u8 ((i%256:Nat):Int)] ++ (J j 3 12))
abbrev aIvD_m (x:Int) (i:Nat):List Mb:= []
def aIv3p_h (i:Nat):Hn:=⟨0,[],[],[],[]⟩
def aIv3p_b (x:Int) (i:Nat) (j:Nat→Value):List Value:=([.int .u8 x,j 1,.int .u8 ((i%256:Nat):Int),.int .i64 ((i:Nat):Int),.int .i64 ((i:Nat):Int),.bool true,j 6,j 7,.int .u8 x,.int .i64 ((i:Nat):Int),.int .u8 ((i%256:Nat):Int),.int .u8 (mv x ((i%256:Nat):Int)),.bool true,.int .i64 ((i:Nat):Int),.int .u8 ((i%256:Nat):Int)])
theorem aIv3p_0 (x:Int) (i:Nat) (j:Nat→Value):evC (yty.en tabE1) aIv3p_h (cAt [1,0,1,0,0] (bdy Try.f54)) ⟨aIvC_s x i j,aIvC_m x i,True,[some (.bool true),some (.int .u8 ((i%256:Nat):Int)),some (.bool true),some (.int .u8 ((i%256:Nat):Int))]⟩=some (.ret,⟨aIv3p_b x i j,[],((((((((((True∧True)∧(True∧(decide (((i:Nat):Int)<256))=true))∧True)∧True)∧(True∧(IntKind.u8.wrap ((i:Nat):Int))=((i%256:Nat):Int)))∧((IntKind.u8=IntKind.u8∧IntKind.u8=IntKind.u8)∧B2 x ((i%256:Nat):Int)))∧(True∧(decide ((mv x ((i%256:Nat):Int))=1))=true))∧True)∧(True∧(IntKind.u8.wrap ((i:Nat):Int))=((i%256:Nat):Int)))∧True),[]⟩):=by kernel_rfl
theorem aIv3 (x:Int) (i:Nat) (j:Nat→Value) (hx:0≤x∧x<256) (hno:∀ j,j<i→mu x.toNat j≠1) (hi:i≤256) (hlt:i<256) (hc:mv x ((i%256:Nat):Int)=1) {c0:Prop} {ch0:List (Option Value)}:Runs Try.prog (cAt [1,0,1,0,0] (bdy Try.f54)) ⟨aIvC_s x i j,aIvC_m x i,c0,ch0⟩ (fun e s=>e= .ret∧∃(j:Nat→Value) (c:Prop) (ch:List (Option Value)),(iv8 x=((i%256:Nat):Int))∧s=⟨aIvD_s x i j,aIvD_m x i,c,ch⟩) 0:=by
  have h0:(decide (((i:Nat):Int)<256))=true:=(decide_eq_true (by omega))
  have h1:(decide ((mv x ((i%256:Nat):Int))=1))=true:=(decide_eq_true hc)
  refine(runs_ev mixed _ (aIv3p_0 x i j) ⟨⟨⟨⟨⟨⟨⟨⟨⟨⟨trivial,trivial⟩,⟨trivial,h0⟩⟩,trivial⟩,trivial⟩,⟨trivial,(by rw[IntKind.wrap_u8];omega)⟩⟩,⟨⟨rfl,rfl⟩,⟨hx,by omega,by omega⟩⟩⟩,⟨trivial,h1⟩⟩,trivial⟩,⟨trivial,(by rw[IntKind.wrap_u8];omega)⟩⟩,trivial⟩).mono ?_
  rintro e s ⟨rfl,hs⟩
  refine⟨rfl,fun q=>s.tm.getD q undef,s.c,s.ch,by rw[mvi hlt] at hc;unfold iv8;rw[ivN_is (by omega) hlt (by omega),Nat.mod_eq_of_lt hlt],?_⟩
  subst hs
  kernel_rfl
abbrev aIvE_s (x:Int) (i:Nat) (j:Nat→Value):List Value:=([.int .u8 x] ++ (J j 1 14))
abbrev aIvE_m (x:Int) (i:Nat):List Mb:= []
def aIv4p_h (i:Nat):Hn:=⟨0,[],[],[],[]⟩
def aIv4p_b (x:Int) (i:Nat) (j:Nat→Value):List Value:=([.int .u8 x,j 1,j 2,.int .i64 ((i:Nat):Int),.int .i64 ((i:Nat):Int),.bool false] ++ (J j 6 9))
theorem aIv4p_0 (x:Int) (i:Nat) (j:Nat→Value):evC (yty.en tabE1) aIv4p_h (cAt [1,0,1,0,0] (bdy Try.f54)) ⟨aIvC_s x i j,aIvC_m x i,True,[some (.bool false)]⟩=some ((.exit 0),⟨aIv4p_b x i j,[],((True∧True)∧(True∧(decide (((i:Nat):Int)<256))=false)),[]⟩):=by kernel_rfl
theorem aIv4 (x:Int) (i:Nat) (j:Nat→Value) (hx:0≤x∧x<256) (hno:∀ j,j<i→mu x.toNat j≠1) (hi:i≤256) (hge:¬ i<256) {c0:Prop} {ch0:List (Option Value)}:Runs Try.prog (cAt [1,0,1,0,0] (bdy Try.f54)) ⟨aIvC_s x i j,aIvC_m x i,c0,ch0⟩ (fun e s=>e=(.exit 0)∧∃(j:Nat→Value) (c:Prop) (ch:List (Option Value)),(iv8 x=0)∧s=⟨aIvE_s x i j,aIvE_m x i,c,ch⟩) 0:=by
  have h0:(decide (((i:Nat):Int)<256))=false:=(decide_eq_false (by omega))
  refine(runs_ev mixed _ (aIv4p_0 x i j) ⟨⟨trivial,trivial⟩,⟨trivial,h0⟩⟩).mono ?_
  rintro e s ⟨rfl,hs⟩
  refine⟨rfl,fun q=>s.tm.getD q undef,s.c,s.ch,by unfold iv8;rw[ivN_no (by omega) (fun j hj=>hno j (by omega))];rfl,?_⟩
  subst hs
  kernel_rfl
abbrev aIvF_s (x:Int) (i:Nat) (j:Nat→Value):List Value:=([j 0,j 1,.int .u8 0] ++ (J j 3 12))
abbrev aIvF_m (x:Int) (i:Nat):List Mb:= []
def aIv5p_h (i:Nat):Hn:=⟨0,[],[],[],[]⟩
def aIv5p_b (x:Int) (i:Nat) (j:Nat→Value):List Value:=([.int .u8 x,j 1,.int .u8 0] ++ (J j 3 12))
theorem aIv5p_0 (x:Int) (i:Nat) (j:Nat→Value):evC (yty.en tabE1) aIv5p_h (cAt [1,1] (bdy Try.f54)) ⟨aIvE_s x i j,aIvE_m x i,True,[]⟩=some (.ret,⟨aIv5p_b x i j,[],(True∧True),[]⟩):=by kernel_rfl
theorem aIv5 (x:Int) (i:Nat) (j:Nat→Value) (hx:0≤x∧x<256) (hv:iv8 x=0)  {c0:Prop} {ch0:List (Option Value)}:Runs Try.prog (cAt [1,1] (bdy Try.f54)) ⟨aIvE_s x i j,aIvE_m x i,c0,ch0⟩ (fun e s=>e= .ret∧∃(j:Nat→Value) (c:Prop) (ch:List (Option Value)),s=⟨aIvF_s x i j,aIvF_m x i,c,ch⟩) 0:=by
  refine(runs_ev mixed _ (aIv5p_0 x i j) ⟨trivial,trivial⟩).mono ?_
  rintro e s ⟨rfl,hs⟩
  refine⟨rfl,fun q=>s.tm.getD q undef,s.c,s.ch,?_⟩
  subst hs
  kernel_rfl
theorem aIv_loop (x:Int) (j:Nat→Value) (hx:0≤x∧x<256) {c0:Prop} {ch0:List (Option Value)}:Runs Try.prog (.loop (cAt [1,0,1,0,0] (bdy Try.f54))) ⟨aIvC_s x 0 j,aIvC_m x 0,c0,ch0⟩ (fun e s=>(e= .exit 0∧∃(i:Nat) (j:Nat→Value) (c:Prop) (ch:List (Option Value)),iv8 x=0∧s=⟨aIvE_s x i j,aIvE_m x i,c,ch⟩)∨(e= .ret∧∃(i:Nat) (j:Nat→Value) (c:Prop) (ch:List (Option Value)),iv8 x=((i%256:Nat):Int)∧s=⟨aIvD_s x i j,aIvD_m x i,c,ch⟩)) 0:=by
  refine runs_loop (fun M s=>∃(i:Nat) (j:Nat→Value) (c:Prop) (ch:List (Option Value)),(∀ j,j<i→mu x.toNat j≠1)∧i≤256∧M=256 - i∧s=⟨aIvC_s x i j,aIvC_m x i,c,ch⟩) 256 ⟨0,j,c0,ch0,fun j h=>by omega,by omega,rfl,rfl⟩ ?_
  rintro M s ⟨i,j,c,ch,hno,hi,rfl,rfl⟩
  by_cases hlt:i<256
  · by_cases hc : mv x ((i % 256 : Nat) : Int) = 1
    · refine (aIv3 x i j hx hno hi hlt hc).mono ?_
      rintro e s ⟨rfl,j,c,ch,hv,rfl⟩
      exact .inr ⟨by simp,.inr ⟨rfl,i,j,c,ch,hv,rfl⟩⟩
    · refine (aIv2 x i j hx hno hi hlt hc).mono ?_
      rintro e s ⟨rfl,j,c,ch,f1,f2,rfl⟩
      exact .inl ⟨rfl,256 - (i+1),by omega,i+1,j,c,ch,f1,f2,rfl,rfl⟩
  · refine (aIv4 x i j hx hno hi hlt).mono ?_
    rintro e s ⟨rfl,j,c,ch,hv,rfl⟩
    exact .inr ⟨by simp,.inl ⟨rfl,i,j,c,ch,hv,rfl⟩⟩
theorem aIv_c (x:Int) (hx:0≤x∧x<256):Pure Try.prog 54 #[.int .u8 x] (.int .u8 (iv8 x)):=by
  refine pure_runs (E:=(yty.en tabE1)) Try.func54 (c:=bdy Try.f54) (by kernel_rfl) (args:= [.int .u8 x]) (by kernel_rfl) (K:=fun e s=>e= .ret∧resS (yty.en tabE1) s Try.f54.results.toList=some [.int .u8 (iv8 x)]) ?_ (fun e s h=>⟨h.1,_,h.2,rfl⟩)
  rw[show(bdy Try.f54)= .seq (cAt [0] (bdy Try.f54)) (.seq (.seq (cAt [1,0,0] (bdy Try.f54)) (.block 0 (.loop (cAt [1,0,1,0,0] (bdy Try.f54))))) (cAt [1,1] (bdy Try.f54))) from by kernel_rfl]
  refine runs_seq (aIv0 x (fun _=>undef) hx) (fun s hh=> ?_) (fun e s hne hh=>absurd hh.1 hne)
  obtain⟨_,j,c,ch,rfl⟩:=hh
  refine runs_seq (K1:=fun e s=>(e= .normal∧∃(i:Nat) (j:Nat→Value) (c:Prop) (ch:List (Option Value)),iv8 x=0∧s=⟨aIvE_s x i j,aIvE_m x i,c,ch⟩)∨(e= .ret∧∃(i:Nat) (j:Nat→Value) (c:Prop) (ch:List (Option Value)),iv8 x=((i%256:Nat):Int)∧s=⟨aIvD_s x i j,aIvD_m x i,c,ch⟩)) ?_ ?_ ?_
  · refine runs_seq (aIv1 x j hx) (fun s hh => ?_) (fun e s hne hh => absurd hh.1 hne)
    obtain⟨_,j,c,ch,f1,f2,rfl⟩:=hh
    refine runs_block (aIv_loop x j hx) ?_
    rintro e s (⟨rfl,h⟩|⟨rfl,h⟩)
    · exact .inl ⟨rfl,.inl ⟨rfl,h⟩⟩
    · exact .inr (.inr ⟨rfl,.inr ⟨rfl,h⟩⟩)
  · rintro s (⟨_, i, j, c, ch, hv, rfl⟩ | ⟨h, _⟩)
    · refine (aIv5 x i j hx hv).mono ?_
      rintro e s ⟨rfl,j,c,ch,rfl⟩
      rw[hv]
      exact⟨rfl,by kernel_rfl⟩
    · cases h
  · rintro e s hne (⟨h, _⟩ | ⟨rfl, i, j, c, ch, hv, rfl⟩)
    · exact absurd h hne
    · rw [hv]
      exact⟨rfl,by kernel_rfl⟩
def piv:Entry Try.prog:=entN Try.func54 (by kernel_rfl) (by kernel_rfl) (fun x=> .int .u8 (iv8 x)) (fun x=>0≤x∧x<256) (k:= .u8) aIv_c
def tabF1:List (Entry Try.prog):=piv :: tabE1
def stS (z b:Int) (i:Nat):Int:=(IntKind.u8.wrap (z+(IntKind.u8.wrap ((Int.tmod (bits .xor .u8 (bits .xor .u8 (bits .xor .u8 (bits .xor .u8 (bits .xor .u8 (b / 2 ^ (min (Int.toNat ((i:Nat):Int)) 8)) (b / 2 ^ (min (Int.toNat (((i+4)%8:Nat):Int)) 8))) (b / 2 ^ (min (Int.toNat (((i+5)%8:Nat):Int)) 8))) (b / 2 ^ (min (Int.toNat (((i+6)%8:Nat):Int)) 8))) (b / 2 ^ (min (Int.toNat (((i+7)%8:Nat):Int)) 8))) (99 / 2 ^ (min (Int.toNat ((i:Nat):Int)) 8))) 2)*2 ^ (min (Int.toNat ((i:Nat):Int)) 8)))))
def sbS (b:Int):Nat→Int
  |0=>0
  |i+1=>stS (sbS b i) b i
def sbD (b:Int):Int:=sbS b 8
abbrev aRsA_s (x:Int) (j:Nat→Value):List Value:=([.int .u8 x] ++ (JU 49))
abbrev aRsA_m (x:Int):List Mb:= []
abbrev aRsB_s (x:Int) (j:Nat→Value):List Value:=([.int .u8 x] ++ (J j 1 49))
abbrev aRsB_m (x:Int):List Mb:= []
def aRs0p_h (i:Nat):Hn:=if i=6 then⟨31,[],[],[],[]⟩ else⟨0,[],[],[],[]⟩
def aRs0p_b (x:Int) (j:Nat→Value):List Value:=([.int .u8 x,undef,.int .u8 0] ++ (JU 47))
theorem aRs0p_0 (x:Int) (j:Nat→Value):evC (yty.en tabF1) aRs0p_h (cAt [0] (bdy Try.f42)) ⟨aRsA_s x j,aRsA_m x,True,[]⟩=some (.normal,⟨aRs0p_b x j,[],(True∧True),[]⟩):=by kernel_rfl
theorem aRs0 (x:Int) (j:Nat→Value) (hx:0≤x∧x<256)  {c0:Prop} {ch0:List (Option Value)}:Runs Try.prog (cAt [0] (bdy Try.f42)) ⟨aRsA_s x j,aRsA_m x,c0,ch0⟩ (fun e s=>e= .normal∧∃(j:Nat→Value) (c:Prop) (ch:List (Option Value)),s=⟨aRsB_s x j,aRsB_m x,c,ch⟩) 0:=by
  refine(runs_ev mixed _ (aRs0p_0 x j) ⟨trivial,trivial⟩).mono ?_
  rintro e s ⟨rfl,hs⟩
  refine⟨rfl,fun q=>s.tm.getD q undef,s.c,s.ch,?_⟩
  subst hs
  kernel_rfl
abbrev aRsC_s (x:Int) (j:Nat→Value):List Value:=(J j 0 3 ++ ([.int .u8 (iv8 x)] ++ (J j 4 46)))
abbrev aRsC_m (x:Int):List Mb:= []
def aRs1p_h (i:Nat):Hn:=if i=6 then⟨31,[],[],[],[]⟩ else⟨0,[],[],[],[]⟩
def aRs1p_b (x:Int) (j:Nat→Value):List Value:=([.int .u8 x,j 1,j 2,.int .u8 (iv8 x)] ++ (J j 4 3 ++ ([.int .u8 x,.int .u8 (iv8 x)] ++ (J j 9 41))))
theorem aRs1p_0 (x:Int) (j:Nat→Value):evC (yty.en tabF1) aRs1p_h (cAt [1,0] (bdy Try.f42)) ⟨aRsB_s x j,aRsB_m x,True,[]⟩=some (.normal,⟨aRs1p_b x j,[],(((True∧True)∧(IntKind.u8=IntKind.u8∧(0≤x∧x<256)))∧True),[]⟩):=by kernel_rfl
theorem aRs1 (x:Int) (j:Nat→Value) (hx:0≤x∧x<256)  {c0:Prop} {ch0:List (Option Value)}:Runs Try.prog (cAt [1,0] (bdy Try.f42)) ⟨aRsB_s x j,aRsB_m x,c0,ch0⟩ (fun e s=>e= .normal∧∃(j:Nat→Value) (c:Prop) (ch:List (Option Value)),s=⟨aRsC_s x j,aRsC_m x,c,ch⟩) 0:=by
  refine(runs_ev mixed _ (aRs1p_0 x j) ⟨⟨⟨trivial,trivial⟩,⟨rfl,hx⟩⟩,trivial⟩).mono ?_
  rintro e s ⟨rfl,hs⟩
  refine⟨rfl,fun q=>s.tm.getD q undef,s.c,s.ch,?_⟩
  subst hs
  kernel_rfl
abbrev aRsD_s (x b:Int) (j:Nat→Value):List Value:=(J j 0 3 ++ ([.int .u8 b,.int .u8 0] ++ (J j 5 45)))
abbrev aRsD_m (x b:Int):List Mb:= []
def aRs2p_h (i:Nat):Hn:=if i=6 then⟨31,[],[],[],[]⟩ else⟨0,[],[],[],[]⟩
def aRs2p_b (x:Int) (j:Nat→Value):List Value:=(J j 0 3 ++ ([.int .u8 (iv8 x),.int .u8 0] ++ (J j 5 45)))
theorem aRs2p_0 (x:Int) (j:Nat→Value):evC (yty.en tabF1) aRs2p_h (cAt [1,1,0] (bdy Try.f42)) ⟨aRsC_s x j,aRsC_m x,True,[]⟩=some (.normal,⟨aRs2p_b x j,[],(True∧True),[]⟩):=by kernel_rfl
theorem aRs2 (x:Int) (j:Nat→Value) (hx:0≤x∧x<256)  {c0:Prop} {ch0:List (Option Value)}:Runs Try.prog (cAt [1,1,0] (bdy Try.f42)) ⟨aRsC_s x j,aRsC_m x,c0,ch0⟩ (fun e s=>e= .normal∧∃(j:Nat→Value) (c:Prop) (ch:List (Option Value)),((iv8 x)=iv8 x)∧s=⟨aRsD_s x (iv8 x) j,aRsD_m x (iv8 x),c,ch⟩) 0:=by
  refine(runs_ev mixed _ (aRs2p_0 x j) ⟨trivial,trivial⟩).mono ?_
  rintro e s ⟨rfl,hs⟩
  refine⟨rfl,fun q=>s.tm.getD q undef,s.c,s.ch,rfl,?_⟩
  subst hs
  kernel_rfl
abbrev aRsE_s (x b z:Int) (i:Nat) (j:Nat→Value):List Value:=(J j 0 3 ++ ([.int .u8 b,.int .u8 z,.int .i64 ((i:Nat):Int)] ++ (J j 6 44)))
abbrev aRsE_m (x b z:Int) (i:Nat):List Mb:= []
def aRs3p_h (i:Nat):Hn:=if i=6 then⟨31,[],[],[],[]⟩ else⟨0,[],[],[],[]⟩
def aRs3p_b (x b:Int) (j:Nat→Value):List Value:=(J j 0 3 ++ ([.int .u8 b,.int .u8 0,.int .i64 0] ++ (J j 6 44)))
theorem aRs3p_0 (x b:Int) (j:Nat→Value):evC (yty.en tabF1) aRs3p_h (cAt [1,1,1,0,0] (bdy Try.f42)) ⟨aRsD_s x b j,aRsD_m x b,True,[]⟩=some (.normal,⟨aRs3p_b x b j,[],(True∧True),[]⟩):=by kernel_rfl
theorem aRs3 (x b:Int) (j:Nat→Value) (hx:0≤x∧x<256) (hb:b=iv8 x)  {c0:Prop} {ch0:List (Option Value)}:Runs Try.prog (cAt [1,1,1,0,0] (bdy Try.f42)) ⟨aRsD_s x b j,aRsD_m x b,c0,ch0⟩ (fun e s=>e= .normal∧∃(j:Nat→Value) (c:Prop) (ch:List (Option Value)),((0:Int)=sbS b 0)∧(0≤8)∧s=⟨aRsE_s x b (0:Int) 0 j,aRsE_m x b (0:Int) 0,c,ch⟩) 0:=by
  refine(runs_ev mixed _ (aRs3p_0 x b j) ⟨trivial,trivial⟩).mono ?_
  rintro e s ⟨rfl,hs⟩
  refine⟨rfl,fun q=>s.tm.getD q undef,s.c,s.ch,rfl,by omega,?_⟩
  subst hs
  kernel_rfl
def aRs4p_h (i:Nat):Hn:=if i=6 then⟨31,[],[],[],[]⟩ else⟨0,[],[],[],[]⟩
def aRs4p_b (x b z:Int) (i:Nat) (j:Nat→Value):List Value:=(J j 0 3 ++ ([.int .u8 b,.int .u8 (IntKind.u8.wrap (z+(IntKind.u8.wrap ((Int.tmod (bits .xor .u8 (bits .xor .u8 (bits .xor .u8 (bits .xor .u8 (bits .xor .u8 (b / 2 ^ (min (Int.toNat ((i:Nat):Int)) 8)) (b / 2 ^ (min (Int.toNat (((i+4)%8:Nat):Int)) 8))) (b / 2 ^ (min (Int.toNat (((i+5)%8:Nat):Int)) 8))) (b / 2 ^ (min (Int.toNat (((i+6)%8:Nat):Int)) 8))) (b / 2 ^ (min (Int.toNat (((i+7)%8:Nat):Int)) 8))) (99 / 2 ^ (min (Int.toNat ((i:Nat):Int)) 8))) 2)*2 ^ (min (Int.toNat ((i:Nat):Int)) 8))))),.int .i64 ((i+1:Nat):Int),.int .u8 (bits .xor .u8 (bits .xor .u8 (bits .xor .u8 (bits .xor .u8 (bits .xor .u8 (b / 2 ^ (min (Int.toNat ((i:Nat):Int)) 8)) (b / 2 ^ (min (Int.toNat (((i+4)%8:Nat):Int)) 8))) (b / 2 ^ (min (Int.toNat (((i+5)%8:Nat):Int)) 8))) (b / 2 ^ (min (Int.toNat (((i+6)%8:Nat):Int)) 8))) (b / 2 ^ (min (Int.toNat (((i+7)%8:Nat):Int)) 8))) (99 / 2 ^ (min (Int.toNat ((i:Nat):Int)) 8))),j 7,j 8,.int .i64 ((i:Nat):Int),.bool true,.int .i64 ((i:Nat):Int),.int .i64 ((i+1:Nat):Int),.int .u8 b,.int .i64 ((i:Nat):Int),.int .u8 (b / 2 ^ (min (Int.toNat ((i:Nat):Int)) 8)),.int .u8 b,.int .i64 ((i:Nat):Int),.int .i64 ((i+4:Nat):Int),.int .i64 (((i+4)%8:Nat):Int),.int .u8 (b / 2 ^ (min (Int.toNat (((i+4)%8:Nat):Int)) 8)),.int .u8 (bits .xor .u8 (b / 2 ^ (min (Int.toNat ((i:Nat):Int)) 8)) (b / 2 ^ (min (Int.toNat (((i+4)%8:Nat):Int)) 8))),.int .u8 b,.int .i64 ((i:Nat):Int),.int .i64 ((i+5:Nat):Int),.int .i64 (((i+5)%8:Nat):Int),.int .u8 (b / 2 ^ (min (Int.toNat (((i+5)%8:Nat):Int)) 8)),.int .u8 (bits .xor .u8 (bits .xor .u8 (b / 2 ^ (min (Int.toNat ((i:Nat):Int)) 8)) (b / 2 ^ (min (Int.toNat (((i+4)%8:Nat):Int)) 8))) (b / 2 ^ (min (Int.toNat (((i+5)%8:Nat):Int)) 8))),.int .u8 b,.int .i64 ((i:Nat):Int),.int .i64 ((i+6:Nat):Int),.int .i64 (((i+6)%8:Nat):Int),.int .u8 (b / 2 ^ (min (Int.toNat (((i+6)%8:Nat):Int)) 8)),.int .u8 (bits .xor .u8 (bits .xor .u8 (bits .xor .u8 (b / 2 ^ (min (Int.toNat ((i:Nat):Int)) 8)) (b / 2 ^ (min (Int.toNat (((i+4)%8:Nat):Int)) 8))) (b / 2 ^ (min (Int.toNat (((i+5)%8:Nat):Int)) 8))) (b / 2 ^ (min (Int.toNat (((i+6)%8:Nat):Int)) 8))),.int .u8 b,.int .i64 ((i:Nat):Int),.int .i64 ((i+7:Nat):Int),.int .i64 (((i+7)%8:Nat):Int),.int .u8 (b / 2 ^ (min (Int.toNat (((i+7)%8:Nat):Int)) 8)),.int .u8 (bits .xor .u8 (bits .xor .u8 (bits .xor .u8 (bits .xor .u8 (b / 2 ^ (min (Int.toNat ((i:Nat):Int)) 8)) (b / 2 ^ (min (Int.toNat (((i+4)%8:Nat):Int)) 8))) (b / 2 ^ (min (Int.toNat (((i+5)%8:Nat):Int)) 8))) (b / 2 ^ (min (Int.toNat (((i+6)%8:Nat):Int)) 8))) (b / 2 ^ (min (Int.toNat (((i+7)%8:Nat):Int)) 8))),.int .i64 ((i:Nat):Int),.int .u8 (99 / 2 ^ (min (Int.toNat ((i:Nat):Int)) 8)),.int .u8 (bits .xor .u8 (bits .xor .u8 (bits .xor .u8 (bits .xor .u8 (bits .xor .u8 (b / 2 ^ (min (Int.toNat ((i:Nat):Int)) 8)) (b / 2 ^ (min (Int.toNat (((i+4)%8:Nat):Int)) 8))) (b / 2 ^ (min (Int.toNat (((i+5)%8:Nat):Int)) 8))) (b / 2 ^ (min (Int.toNat (((i+6)%8:Nat):Int)) 8))) (b / 2 ^ (min (Int.toNat (((i+7)%8:Nat):Int)) 8))) (99 / 2 ^ (min (Int.toNat ((i:Nat):Int)) 8))),.int .u8 z,.int .u8 (bits .xor .u8 (bits .xor .u8 (bits .xor .u8 (bits .xor .u8 (bits .xor .u8 (b / 2 ^ (min (Int.toNat ((i:Nat):Int)) 8)) (b / 2 ^ (min (Int.toNat (((i+4)%8:Nat):Int)) 8))) (b / 2 ^ (min (Int.toNat (((i+5)%8:Nat):Int)) 8))) (b / 2 ^ (min (Int.toNat (((i+6)%8:Nat):Int)) 8))) (b / 2 ^ (min (Int.toNat (((i+7)%8:Nat):Int)) 8))) (99 / 2 ^ (min (Int.toNat ((i:Nat):Int)) 8))),.int .u8 (Int.tmod (bits .xor .u8 (bits .xor .u8 (bits .xor .u8 (bits .xor .u8 (bits .xor .u8 (b / 2 ^ (min (Int.toNat ((i:Nat):Int)) 8)) (b / 2 ^ (min (Int.toNat (((i+4)%8:Nat):Int)) 8))) (b / 2 ^ (min (Int.toNat (((i+5)%8:Nat):Int)) 8))) (b / 2 ^ (min (Int.toNat (((i+6)%8:Nat):Int)) 8))) (b / 2 ^ (min (Int.toNat (((i+7)%8:Nat):Int)) 8))) (99 / 2 ^ (min (Int.toNat ((i:Nat):Int)) 8))) 2),.int .i64 ((i:Nat):Int),.int .u8 (IntKind.u8.wrap ((Int.tmod (bits .xor .u8 (bits .xor .u8 (bits .xor .u8 (bits .xor .u8 (bits .xor .u8 (b / 2 ^ (min (Int.toNat ((i:Nat):Int)) 8)) (b / 2 ^ (min (Int.toNat (((i+4)%8:Nat):Int)) 8))) (b / 2 ^ (min (Int.toNat (((i+5)%8:Nat):Int)) 8))) (b / 2 ^ (min (Int.toNat (((i+6)%8:Nat):Int)) 8))) (b / 2 ^ (min (Int.toNat (((i+7)%8:Nat):Int)) 8))) (99 / 2 ^ (min (Int.toNat ((i:Nat):Int)) 8))) 2)*2 ^ (min (Int.toNat ((i:Nat):Int)) 8))),.int .u8 (IntKind.u8.wrap (z+(IntKind.u8.wrap ((Int.tmod (bits .xor .u8 (bits .xor .u8 (bits .xor .u8 (bits .xor .u8 (bits .xor .u8 (b / 2 ^ (min (Int.toNat ((i:Nat):Int)) 8)) (b / 2 ^ (min (Int.toNat (((i+4)%8:Nat):Int)) 8))) (b / 2 ^ (min (Int.toNat (((i+5)%8:Nat):Int)) 8))) (b / 2 ^ (min (Int.toNat (((i+6)%8:Nat):Int)) 8))) (b / 2 ^ (min (Int.toNat (((i+7)%8:Nat):Int)) 8))) (99 / 2 ^ (min (Int.toNat ((i:Nat):Int)) 8))) 2)*2 ^ (min (Int.toNat ((i:Nat):Int)) 8))))),j 49]))
theorem aRs4p_0 (x b z:Int) (i:Nat) (j:Nat→Value):evC (yty.en tabF1) aRs4p_h (cAt [1,1,1,0,1,0,0] (bdy Try.f42)) ⟨aRsE_s x b z i j,aRsE_m x b z i,True,[some (.bool true),none,some (.int .i64 ((i+4:Nat):Int)),some (.int .i64 (((i+4)%8:Nat):Int)),none,none,some (.int .i64 ((i+5:Nat):Int)),some (.int .i64 (((i+5)%8:Nat):Int)),none,none,some (.int .i64 ((i+6:Nat):Int)),some (.int .i64 (((i+6)%8:Nat):Int)),none,none,some (.int .i64 ((i+7:Nat):Int)),some (.int .i64 (((i+7)%8:Nat):Int)),none,none,none,none,none,none,none,some (.int .i64 ((i+1:Nat):Int))]⟩=some (.normal,⟨aRs4p_b x b z i j,[],(((((((((((((((((((((((((((((((((((((((((((True∧True)∧(True∧(decide (((i:Nat):Int)<8))=true))∧True)∧True)∧(0≤((i:Nat):Int)))∧True)∧True)∧(True∧(IntKind.i64.wrap (((i:Nat):Int)+4))=((i+4:Nat):Int)))∧(((8:Int)≠0)∧(Int.tmod ((i+4:Nat):Int) 8)=(((i+4)%8:Nat):Int)))∧(0≤(((i+4)%8:Nat):Int)))∧True)∧True)∧True)∧(True∧(IntKind.i64.wrap (((i:Nat):Int)+5))=((i+5:Nat):Int)))∧(((8:Int)≠0)∧(Int.tmod ((i+5:Nat):Int) 8)=(((i+5)%8:Nat):Int)))∧(0≤(((i+5)%8:Nat):Int)))∧True)∧True)∧True)∧(True∧(IntKind.i64.wrap (((i:Nat):Int)+6))=((i+6:Nat):Int)))∧(((8:Int)≠0)∧(Int.tmod ((i+6:Nat):Int) 8)=(((i+6)%8:Nat):Int)))∧(0≤(((i+6)%8:Nat):Int)))∧True)∧True)∧True)∧(True∧(IntKind.i64.wrap (((i:Nat):Int)+7))=((i+7:Nat):Int)))∧(((8:Int)≠0)∧(Int.tmod ((i+7:Nat):Int) 8)=(((i+7)%8:Nat):Int)))∧(0≤(((i+7)%8:Nat):Int)))∧True)∧True)∧(0≤((i:Nat):Int)))∧True)∧True)∧True)∧True)∧((2:Int)≠0))∧True)∧(0≤((i:Nat):Int)))∧True)∧True)∧True)∧(True∧(IntKind.i64.wrap (((i:Nat):Int)+1))=((i+1:Nat):Int)))∧True),[]⟩):=by kernel_rfl
theorem aRs4 (x b z:Int) (i:Nat) (j:Nat→Value) (hx:0≤x∧x<256) (hb:b=iv8 x) (hz:z=sbS b i) (hi:i≤8) (hlt:i<8) {c0:Prop} {ch0:List (Option Value)}:Runs Try.prog (cAt [1,1,1,0,1,0,0] (bdy Try.f42)) ⟨aRsE_s x b z i j,aRsE_m x b z i,c0,ch0⟩ (fun e s=>e= .normal∧∃(j:Nat→Value) (c:Prop) (ch:List (Option Value)),((stS z b i)=sbS b (i+1))∧((i+1)≤8)∧s=⟨aRsE_s x b (stS z b i) (i+1) j,aRsE_m x b (stS z b i) (i+1),c,ch⟩) 0:=by
  have h0:(decide (((i:Nat):Int)<8))=true:=(decide_eq_true (by omega))
  refine(runs_ev mixed _ (aRs4p_0 x b z i j) ⟨⟨⟨⟨⟨⟨⟨⟨⟨⟨⟨⟨⟨⟨⟨⟨⟨⟨⟨⟨⟨⟨⟨⟨⟨⟨⟨⟨⟨⟨⟨⟨⟨⟨⟨⟨⟨⟨⟨⟨⟨⟨⟨trivial,trivial⟩,⟨trivial,h0⟩⟩,trivial⟩,trivial⟩,(by omega)⟩,trivial⟩,trivial⟩,⟨trivial,(by rw[IntKind.wrap_i64];omega)⟩⟩,⟨(by decide),(by exact tmodN (i+4) 8)⟩⟩,(by omega)⟩,trivial⟩,trivial⟩,trivial⟩,⟨trivial,(by rw[IntKind.wrap_i64];omega)⟩⟩,⟨(by decide),(by exact tmodN (i+5) 8)⟩⟩,(by omega)⟩,trivial⟩,trivial⟩,trivial⟩,⟨trivial,(by rw[IntKind.wrap_i64];omega)⟩⟩,⟨(by decide),(by exact tmodN (i+6) 8)⟩⟩,(by omega)⟩,trivial⟩,trivial⟩,trivial⟩,⟨trivial,(by rw[IntKind.wrap_i64];omega)⟩⟩,⟨(by decide),(by exact tmodN (i+7) 8)⟩⟩,(by omega)⟩,trivial⟩,trivial⟩,(by omega)⟩,trivial⟩,trivial⟩,trivial⟩,trivial⟩,(by decide)⟩,trivial⟩,(by omega)⟩,trivial⟩,trivial⟩,trivial⟩,⟨trivial,(by rw[IntKind.wrap_i64];omega)⟩⟩,trivial⟩).mono ?_
  rintro e s ⟨rfl,hs⟩
  refine⟨rfl,fun q=>s.tm.getD q undef,s.c,s.ch,by rw[hz];rfl,by omega,?_⟩
  subst hs
  kernel_rfl
abbrev aRsF_s (x b z:Int) (i:Nat) (j:Nat→Value):List Value:=(J j 0 4 ++ ([.int .u8 z] ++ (J j 5 45)))
abbrev aRsF_m (x b z:Int) (i:Nat):List Mb:= []
def aRs5p_h (i:Nat):Hn:=if i=6 then⟨31,[],[],[],[]⟩ else⟨0,[],[],[],[]⟩
def aRs5p_b (x b z:Int) (i:Nat) (j:Nat→Value):List Value:=(J j 0 3 ++ ([.int .u8 b,.int .u8 z,.int .i64 ((i:Nat):Int)] ++ (J j 6 3 ++ ([.int .i64 ((i:Nat):Int),.bool false] ++ (J j 11 39)))))
theorem aRs5p_0 (x b z:Int) (i:Nat) (j:Nat→Value):evC (yty.en tabF1) aRs5p_h (cAt [1,1,1,0,1,0,0] (bdy Try.f42)) ⟨aRsE_s x b z i j,aRsE_m x b z i,True,[some (.bool false)]⟩=some ((.exit 0),⟨aRs5p_b x b z i j,[],((True∧True)∧(True∧(decide (((i:Nat):Int)<8))=false)),[]⟩):=by kernel_rfl
theorem aRs5 (x b z:Int) (i:Nat) (j:Nat→Value) (hx:0≤x∧x<256) (hb:b=iv8 x) (hz:z=sbS b i) (hi:i≤8) (hge:¬ i<8) {c0:Prop} {ch0:List (Option Value)}:Runs Try.prog (cAt [1,1,1,0,1,0,0] (bdy Try.f42)) ⟨aRsE_s x b z i j,aRsE_m x b z i,c0,ch0⟩ (fun e s=>e=(.exit 0)∧∃(j:Nat→Value) (c:Prop) (ch:List (Option Value)),(z=sbD (iv8 x))∧s=⟨aRsF_s x b z i j,aRsF_m x b z i,c,ch⟩) 0:=by
  have h0:(decide (((i:Nat):Int)<8))=false:=(decide_eq_false (by omega))
  refine(runs_ev mixed _ (aRs5p_0 x b z i j) ⟨⟨trivial,trivial⟩,⟨trivial,h0⟩⟩).mono ?_
  rintro e s ⟨rfl,hs⟩
  refine⟨rfl,fun q=>s.tm.getD q undef,s.c,s.ch,by rw[hz,hb,show i=8 by omega];rfl,?_⟩
  subst hs
  kernel_rfl
theorem aRs6L (x:Int) (b:Int) (j:Nat→Value) (hx:0≤x∧x<256) (hb:b=iv8 x) (ihz:(0:Int)=sbS b 0) (ihi:0≤8)  {c0:Prop} {ch0:List (Option Value)}:Runs Try.prog (.loop (cAt [1,1,1,0,1,0,0] (bdy Try.f42))) ⟨aRsE_s x b (0:Int) 0 j,aRsE_m x b (0:Int) 0,c0,ch0⟩ (fun e s=>e= .exit 0∧∃(z:Int) (i:Nat) (j:Nat→Value) (c:Prop) (ch:List (Option Value)),(z=sbD (iv8 x))∧s=⟨aRsF_s x b z i j,aRsF_m x b z i,c,ch⟩) 0:=by
  refine runs_loop (fun M s=>∃(z:Int) (i:Nat) (j:Nat→Value) (c:Prop) (ch:List (Option Value)),(z=sbS b i)∧(i≤8)∧M=8 - i∧s=⟨aRsE_s x b z i j,aRsE_m x b z i,c,ch⟩) (8 - 0) ⟨(0:Int),0,j,c0,ch0,ihz,ihi,rfl,rfl⟩ ?_
  rintro M s ⟨z,i,j,c,ch,hz,hi,rfl,rfl⟩
  by_cases hlt:i<8
  · skip
    refine(aRs4 x b z i j hx hb hz hi hlt).mono ?_
    rintro e s ⟨rfl,j,c,ch,f2,f3,rfl⟩
    exact .inl ⟨rfl,8 - (i+1),by omega,⟨(stS z b i),(i+1),j,c,ch,f2,f3,rfl,rfl⟩⟩
  · refine (aRs5 x b z i j hx hb hz hi hlt).mono ?_
    intro e s hh
    obtain⟨rfl,j,c,ch,f1,rfl⟩:=hh
    exact .inr ⟨by simp,rfl,z,i,j,c,ch,f1,rfl⟩
theorem aRs6 (x:Int) (b:Int) (j:Nat→Value) (hx:0≤x∧x<256) (hb:b=iv8 x) (ihz:(0:Int)=sbS b 0) (ihi:0≤8)  {c0:Prop} {ch0:List (Option Value)}:Runs Try.prog (cAt [1,1,1,0,1] (bdy Try.f42)) ⟨aRsE_s x b (0:Int) 0 j,aRsE_m x b (0:Int) 0,c0,ch0⟩ (fun e s=>e= .normal∧∃(z:Int) (i:Nat) (j:Nat→Value) (c:Prop) (ch:List (Option Value)),(z=sbD (iv8 x))∧s=⟨aRsF_s x b z i j,aRsF_m x b z i,c,ch⟩) 0:=by
  rw[show(cAt [1,1,1,0,1] (bdy Try.f42))= .block 0 (.loop (cAt [1,1,1,0,1,0,0] (bdy Try.f42))) from by kernel_rfl]
  refine runs_block (aRs6L x b j hx hb ihz ihi ) ?_
  rintro e s ⟨rfl,hh⟩
  exact .inl ⟨rfl,rfl,hh⟩
theorem aRs7 (x b:Int) (j:Nat→Value) (hx:0≤x∧x<256) (hb:b=iv8 x)  {c0:Prop} {ch0:List (Option Value)}:Runs Try.prog (cAt [1,1,1,0] (bdy Try.f42)) ⟨aRsD_s x b j,aRsD_m x b,c0,ch0⟩ (fun e s=>e= .normal∧∃(z1:Int) (i1:Nat) (j:Nat→Value) (c:Prop) (ch:List (Option Value)),(z1=sbD (iv8 x))∧s=⟨aRsF_s x b z1 i1 j,aRsF_m x b z1 i1,c,ch⟩) 0:=by
  rw[show(cAt [1,1,1,0] (bdy Try.f42))=(.seq (cAt [1,1,1,0,0] (bdy Try.f42)) (cAt [1,1,1,0,1] (bdy Try.f42))) from by kernel_rfl]
  refine runs_seq (aRs3 x b j hx hb ) (fun s hh=> ?_) (fun e s hne hh=>absurd hh.1 hne)
  obtain⟨_,j,c,ch,f0_2,f0_3,rfl⟩:=hh
  refine(aRs6 x b j hx hb f0_2 f0_3 ).mono ?_
  rintro e s ⟨rfl,z1,i1,j,c,ch,f1_1,rfl⟩
  exact⟨rfl,z1,i1,j,c,ch,f1_1,rfl⟩
abbrev aRsG_s (x b z:Int) (i:Nat) (j:Nat→Value):List Value:=([j 0,j 1,.int .u8 z] ++ (J j 3 47))
abbrev aRsG_m (x b z:Int) (i:Nat):List Mb:= []
def aRs8p_h (i:Nat):Hn:=if i=6 then⟨31,[],[],[],[]⟩ else⟨0,[],[],[],[]⟩
def aRs8p_b (x b z:Int) (i:Nat) (j:Nat→Value):List Value:=([j 0,j 1,.int .u8 z,j 3,.int .u8 z] ++ (J j 5 44 ++ ([.int .u8 z])))
theorem aRs8p_0 (x b z:Int) (i:Nat) (j:Nat→Value):evC (yty.en tabF1) aRs8p_h (cAt [1,1,1,1] (bdy Try.f42)) ⟨aRsF_s x b z i j,aRsF_m x b z i,True,[]⟩=some (.ret,⟨aRs8p_b x b z i j,[],((True∧True)∧True),[]⟩):=by kernel_rfl
theorem aRs8 (x b z:Int) (i:Nat) (j:Nat→Value) (hx:0≤x∧x<256) (hz:z=sbD (iv8 x))  {c0:Prop} {ch0:List (Option Value)}:Runs Try.prog (cAt [1,1,1,1] (bdy Try.f42)) ⟨aRsF_s x b z i j,aRsF_m x b z i,c0,ch0⟩ (fun e s=>e= .ret∧∃(j:Nat→Value) (c:Prop) (ch:List (Option Value)),s=⟨aRsG_s x b z i j,aRsG_m x b z i,c,ch⟩) 0:=by
  refine(runs_ev mixed _ (aRs8p_0 x b z i j) ⟨⟨trivial,trivial⟩,trivial⟩).mono ?_
  rintro e s ⟨rfl,hs⟩
  refine⟨rfl,fun q=>s.tm.getD q undef,s.c,s.ch,?_⟩
  subst hs
  kernel_rfl
theorem aRsu (x:Int) (j:Nat→Value) (hx:0≤x∧x<256)  {c0:Prop} {ch0:List (Option Value)}:Runs Try.prog (cAt [] (bdy Try.f42)) ⟨aRsA_s x j,aRsA_m x,c0,ch0⟩ (fun e s=>e= .ret∧∃(z13:Int) (i13:Nat) (j:Nat→Value) (c:Prop) (ch:List (Option Value)),(z13=sbD (iv8 x))∧s=⟨aRsG_s x (iv8 x) z13 i13 j,aRsG_m x (iv8 x) z13 i13,c,ch⟩) 0:=by
  rw[show(cAt [] (bdy Try.f42))=(.seq (cAt [0] (bdy Try.f42)) (.seq (cAt [1,0] (bdy Try.f42)) (.seq (cAt [1,1,0] (bdy Try.f42)) (.seq (cAt [1,1,1,0] (bdy Try.f42)) (cAt [1,1,1,1] (bdy Try.f42)))))) from by kernel_rfl]
  refine runs_seq (aRs0 x j hx ) (fun s hh=> ?_) (fun e s hne hh=>absurd hh.1 hne)
  obtain⟨_,j,c,ch,rfl⟩:=hh
  refine runs_seq (aRs1 x j hx ) (fun s hh=> ?_) (fun e s hne hh=>absurd hh.1 hne)
  obtain⟨_,j,c,ch,rfl⟩:=hh
  refine runs_seq (aRs2 x j hx ) (fun s hh=> ?_) (fun e s hne hh=>absurd hh.1 hne)
  obtain⟨_,j,c,ch,f2_1,rfl⟩:=hh
  refine runs_seq (aRs7 x (iv8 x) j hx f2_1 ) (fun s hh=> ?_) (fun e s hne hh=>absurd hh.1 hne)
  obtain⟨_,z13,i13,j,c,ch,f3_1,rfl⟩:=hh
  refine(aRs8 x (iv8 x) z13 i13 j hx f3_1 ).mono ?_
  rintro e s ⟨rfl,j,c,ch,rfl⟩
  exact⟨rfl,z13,i13,j,c,ch,f3_1,rfl⟩
theorem aRs_c (x:Int) (hx:0≤x∧x<256):Pure Try.prog 42 #[.int .u8 x] (.int .u8 (sbD (iv8 x))):=by
  refine pure_runs (E:=(yty.en tabF1)) Try.func42 (c:=bdy Try.f42) (by kernel_rfl) (args:= [.int .u8 x]) (by kernel_rfl) (K:=fun e s=>e= .ret∧resS (yty.en tabF1) s Try.f42.results.toList=some [.int .u8 (sbD (iv8 x))]) ?_ (fun e s h=>⟨h.1,_,h.2,rfl⟩)
  refine(aRsu x (fun _=>undef) hx).mono ?_
  rintro e s ⟨rfl,hh⟩
  obtain⟨z,i,j,c,ch,hz,rfl⟩:=hh
  rw[← hz]
  exact⟨rfl,by kernel_rfl⟩
theorem sbD_all:∀ a:Fin 256,sbD ((invN a.1:Nat):Int)=sbT.getD a.1 0:=by decide+kernel
theorem sbD_eq {x:Int} (hx:0≤x∧x<256):sbD (iv8 x)=sbv x:=sbD_all ⟨x.toNat,by omega⟩
theorem Rs_c (x:Int) (hx:0≤x∧x<256):Pure Try.prog 42 #[.int .u8 x] (.int .u8 (sbv x)):=by
  have h:=aRs_c x hx
  rwa[sbD_eq hx] at h
def prs:Entry Try.prog:=entN Try.func42 (by kernel_rfl) (by kernel_rfl) (fun x=> .int .u8 (sbv x)) (fun x=>0≤x∧x<256) (k:= .u8) Rs_c
def tabF2:List (Entry Try.prog):=prs :: tabF1
def tbI (n:Nat):List Int:=(List.range n).map fun i=>sbv ((i%256:Nat):Int)
theorem tbI_all:tbI 256=sbT:=by kernel_rfl
abbrev aTbA_s  (j:Nat→Value):List Value:=(JU 13)
abbrev aTbA_m:List Mb:= []
abbrev aTbB_s  (j:Nat→Value):List Value:=([.pointer (some ⟨0,0,none⟩)] ++ (J j 1 12))
abbrev aTbB_m:List Mb:= [((wA .u8 256 []),(53,(0,0)))]
abbrev aTbC_s  (j:Nat→Value):List Value:=([.pointer (some ⟨0,0,none⟩),.pointer (some ⟨1,0,none⟩)] ++ (J j 2 11))
abbrev aTbC_m:List Mb:= [((wA .u8 256 []),(53,(0,0))),((wA .u8 256 []),(53,(0,0)))]
def aTb0p_h (i:Nat):Hn:=⟨0,[],[],[],[]⟩
def aTb0p_b  (j:Nat→Value):List Value:=([.pointer (some ⟨0,0,none⟩)] ++ (JU 12))
theorem aTb0p_0  (j:Nat→Value):evC (yty.en tabF2) aTb0p_h (cAt [0] (bdy Try.f32)) ⟨aTbA_s  j,[],True,[]⟩=some (.normal,⟨aTb0p_b  j,[((wA .u8 256 []),(53,(0,0)))],True,[]⟩):=by kernel_rfl
theorem aTb0  (j:Nat→Value)   {c0:Prop} {ch0:List (Option Value)}:Runs Try.prog (cAt [0] (bdy Try.f32)) ⟨aTbA_s j,aTbA_m,c0,ch0⟩ (fun e s=>e= .normal∧∃(j:Nat→Value) (c:Prop) (ch:List (Option Value)),s=⟨aTbB_s j,aTbB_m,c,ch⟩) 0:=by
  refine(runs_ev mixed _ (aTb0p_0  j) trivial).mono ?_
  rintro e s ⟨rfl,hs⟩
  refine⟨rfl,fun q=>s.tm.getD q undef,s.c,s.ch,?_⟩
  subst hs
  kernel_rfl
def aTb1p_h (i:Nat):Hn:=⟨0,[],[],[],[]⟩
def aTb1p_b  (j:Nat→Value):List Value:=([.pointer (some ⟨0,0,none⟩),.pointer (some ⟨1,0,none⟩)] ++ (J j 2 11))
theorem aTb1p_0  (j:Nat→Value):evC (yty.en tabF2) aTb1p_h (cAt [1,0] (bdy Try.f32)) ⟨aTbB_s  j,[((wA .u8 256 []),(53,(0,0)))],True,[]⟩=some (.normal,⟨aTb1p_b  j,[((wA .u8 256 []),(53,(0,0))),((wA .u8 256 []),(53,(0,0)))],True,[]⟩):=by kernel_rfl
theorem aTb1  (j:Nat→Value)   {c0:Prop} {ch0:List (Option Value)}:Runs Try.prog (cAt [1,0] (bdy Try.f32)) ⟨aTbB_s j,aTbB_m,c0,ch0⟩ (fun e s=>e= .normal∧∃(j:Nat→Value) (c:Prop) (ch:List (Option Value)),s=⟨aTbC_s j,aTbC_m,c,ch⟩) 0:=by
  refine(runs_ev mixed _ (aTb1p_0  j) trivial).mono ?_
  rintro e s ⟨rfl,hs⟩
  refine⟨rfl,fun q=>s.tm.getD q undef,s.c,s.ch,?_⟩
  subst hs
  kernel_rfl
abbrev aTbD_s (Y:List Int) (i:Nat) (j:Nat→Value):List Value:=([.pointer (some ⟨0,0,none⟩),.pointer (some ⟨1,0,none⟩),.int .i64 ((i:Nat):Int)] ++ (J j 3 10))
abbrev aTbD_m (Y:List Int) (i:Nat):List Mb:= [((wA .u8 256 []),(53,(0,0))),((wA .u8 256 Y),(53,(0,0)))]
def aTb2p_h (i:Nat):Hn:=⟨0,[],[],[],[]⟩
def aTb2p_b  (j:Nat→Value):List Value:=([.pointer (some ⟨0,0,none⟩),.pointer (some ⟨1,0,none⟩),.int .i64 0] ++ (J j 3 10))
theorem aTb2p_0  (j:Nat→Value):evC (yty.en tabF2) aTb2p_h (cAt [1,1,0,0] (bdy Try.f32)) ⟨aTbC_s  j,[((wA .u8 256 []),(53,(0,0))),((wA .u8 256 []),(53,(0,0)))],True,[]⟩=some (.normal,⟨aTb2p_b  j,[((wA .u8 256 []),(53,(0,0))),((wA .u8 256 []),(53,(0,0)))],(True∧True),[]⟩):=by kernel_rfl
theorem aTb2  (j:Nat→Value)   {c0:Prop} {ch0:List (Option Value)}:Runs Try.prog (cAt [1,1,0,0] (bdy Try.f32)) ⟨aTbC_s j,aTbC_m,c0,ch0⟩ (fun e s=>e= .normal∧∃(j:Nat→Value) (c:Prop) (ch:List (Option Value)),(([]:List Int)=tbI 0)∧(([]:List Int).length=0)∧(0≤256)∧s=⟨aTbD_s ([]:List Int) 0 j,aTbD_m ([]:List Int) 0,c,ch⟩) 0:=by
  refine(runs_ev mixed _ (aTb2p_0  j) ⟨trivial,trivial⟩).mono ?_
  rintro e s ⟨rfl,hs⟩
  refine⟨rfl,fun q=>s.tm.getD q undef,s.c,s.ch,rfl,rfl,by omega,?_⟩
  subst hs
  kernel_rfl
def aTb3p_h (i:Nat):Hn:=⟨0,[],[],[],[]⟩
def aTb3p_b (Y:List Int) (i:Nat) (j:Nat→Value):List Value:=([.pointer (some ⟨0,0,none⟩),.pointer (some ⟨1,0,none⟩),.int .i64 ((i+1:Nat):Int),.int .i64 ((i:Nat):Int),.bool true,.int .i64 ((i:Nat):Int),.int .i64 ((i+1:Nat):Int),.int .i64 ((i:Nat):Int),.int .i64 ((i:Nat):Int),.int .u8 ((i%256:Nat):Int),.int .u8 (sbv ((i%256:Nat):Int)),.pointer (some ⟨1,0+Int.toNat ((i:Nat):Int)*1,none⟩),j 12])
theorem aTb3p_0 (Y:List Int) (i:Nat) (j:Nat→Value):evC (yty.en tabF2) aTb3p_h (cAt [1,1,0,1,0,0] (bdy Try.f32)) ⟨aTbD_s Y i j,aTbD_m Y i,True,[some (.bool true),some (.int .u8 ((i%256:Nat):Int)),some (.agg (wA .u8 256 (Y ++ [(sbv ((i%256:Nat):Int))]))),some (.int .i64 ((i+1:Nat):Int))]⟩=some (.normal,⟨aTb3p_b Y i j,[((wA .u8 256 []),(53,(0,0))),((wA .u8 256 (Y ++ [(sbv ((i%256:Nat):Int))])),(53,(0,0)))],(((((((((((True∧True)∧(True∧(decide (((i:Nat):Int)<256))=true))∧True)∧True)∧(True∧(IntKind.u8.wrap ((i:Nat):Int))=((i%256:Nat):Int)))∧(IntKind.u8=IntKind.u8∧(0≤((i%256:Nat):Int)∧((i%256:Nat):Int)<256)))∧(0≤((i:Nat):Int)∧((i:Nat):Int)<((256:Nat):Int)))∧((0+Int.toNat ((i:Nat):Int)*1)<(wA .u8 256 Y).size∧(wA .u8 256 Y).setIfInBounds (0+Int.toNat ((i:Nat):Int)*1) (.int .u8 (sbv ((i%256:Nat):Int)))=(wA .u8 256 (Y ++ [(sbv ((i%256:Nat):Int))]))))∧True)∧(True∧(IntKind.i64.wrap (((i:Nat):Int)+1))=((i+1:Nat):Int)))∧True),[]⟩):=by kernel_rfl
theorem aTb3 (Y:List Int) (i:Nat) (j:Nat→Value) (hY:Y=tbI i) (hl:Y.length=i) (hi:i≤256) (hlt:i<256) {c0:Prop} {ch0:List (Option Value)}:Runs Try.prog (cAt [1,1,0,1,0,0] (bdy Try.f32)) ⟨aTbD_s Y i j,aTbD_m Y i,c0,ch0⟩ (fun e s=>e= .normal∧∃(j:Nat→Value) (c:Prop) (ch:List (Option Value)),((Y ++ [(sbv ((i%256:Nat):Int))])=tbI (i+1))∧((Y ++ [(sbv ((i%256:Nat):Int))]).length=(i+1))∧((i+1)≤256)∧s=⟨aTbD_s (Y ++ [(sbv ((i%256:Nat):Int))]) (i+1) j,aTbD_m (Y ++ [(sbv ((i%256:Nat):Int))]) (i+1),c,ch⟩) 0:=by
  have h0:(decide (((i:Nat):Int)<256))=true:=(decide_eq_true (by omega))
  refine(runs_ev mixed _ (aTb3p_0 Y i j) ⟨⟨⟨⟨⟨⟨⟨⟨⟨⟨⟨trivial,trivial⟩,⟨trivial,h0⟩⟩,trivial⟩,trivial⟩,⟨trivial,(by rw[IntKind.wrap_u8];omega)⟩⟩,⟨rfl,by omega,by omega⟩⟩,(by(try simp only[Int.toNat_natCast,wA_size]);omega)⟩,wA_set (by omega) (by omega)⟩,trivial⟩,⟨trivial,(by rw[IntKind.wrap_i64];omega)⟩⟩,trivial⟩).mono ?_
  rintro e s ⟨rfl,hs⟩
  refine⟨rfl,fun q=>s.tm.getD q undef,s.c,s.ch,by rw[hY];simp[tbI,List.range_succ],by simp;omega,by omega,?_⟩
  subst hs
  kernel_rfl
abbrev aTbE_s (Y:List Int) (i:Nat) (j:Nat→Value):List Value:=([.pointer (some ⟨0,0,none⟩),.pointer (some ⟨1,0,none⟩)] ++ (J j 2 11))
abbrev aTbE_m (Y:List Int) (i:Nat):List Mb:= [((wA .u8 256 []),(53,(0,0))),((wA .u8 256 Y),(53,(0,0)))]
def aTb4p_h (i:Nat):Hn:=⟨0,[],[],[],[]⟩
def aTb4p_b (Y:List Int) (i:Nat) (j:Nat→Value):List Value:=([.pointer (some ⟨0,0,none⟩),.pointer (some ⟨1,0,none⟩),.int .i64 ((i:Nat):Int),.int .i64 ((i:Nat):Int),.bool false] ++ (J j 5 8))
theorem aTb4p_0 (Y:List Int) (i:Nat) (j:Nat→Value):evC (yty.en tabF2) aTb4p_h (cAt [1,1,0,1,0,0] (bdy Try.f32)) ⟨aTbD_s Y i j,aTbD_m Y i,True,[some (.bool false)]⟩=some ((.exit 0),⟨aTb4p_b Y i j,[((wA .u8 256 []),(53,(0,0))),((wA .u8 256 Y),(53,(0,0)))],((True∧True)∧(True∧(decide (((i:Nat):Int)<256))=false)),[]⟩):=by kernel_rfl
theorem aTb4 (Y:List Int) (i:Nat) (j:Nat→Value) (hY:Y=tbI i) (hl:Y.length=i) (hi:i≤256) (hge:¬ i<256) {c0:Prop} {ch0:List (Option Value)}:Runs Try.prog (cAt [1,1,0,1,0,0] (bdy Try.f32)) ⟨aTbD_s Y i j,aTbD_m Y i,c0,ch0⟩ (fun e s=>e=(.exit 0)∧∃(j:Nat→Value) (c:Prop) (ch:List (Option Value)),(Y=sbT)∧s=⟨aTbE_s Y i j,aTbE_m Y i,c,ch⟩) 0:=by
  have h0:(decide (((i:Nat):Int)<256))=false:=(decide_eq_false (by omega))
  refine(runs_ev mixed _ (aTb4p_0 Y i j) ⟨⟨trivial,trivial⟩,⟨trivial,h0⟩⟩).mono ?_
  rintro e s ⟨rfl,hs⟩
  refine⟨rfl,fun q=>s.tm.getD q undef,s.c,s.ch,by rw[hY,show i=256 by omega,tbI_all],?_⟩
  subst hs
  kernel_rfl
theorem aTb5L  (j:Nat→Value) (ihY:([]:List Int)=tbI 0) (ihl:([]:List Int).length=0) (ihi:0≤256)  {c0:Prop} {ch0:List (Option Value)}:Runs Try.prog (.loop (cAt [1,1,0,1,0,0] (bdy Try.f32))) ⟨aTbD_s ([]:List Int) 0 j,aTbD_m ([]:List Int) 0,c0,ch0⟩ (fun e s=>e= .exit 0∧∃(Y:List Int) (i:Nat) (j:Nat→Value) (c:Prop) (ch:List (Option Value)),(Y=sbT)∧s=⟨aTbE_s Y i j,aTbE_m Y i,c,ch⟩) 0:=by
  refine runs_loop (fun M s=>∃(Y:List Int) (i:Nat) (j:Nat→Value) (c:Prop) (ch:List (Option Value)),(Y=tbI i)∧(Y.length=i)∧(i≤256)∧M=256 - i∧s=⟨aTbD_s Y i j,aTbD_m Y i,c,ch⟩) (256 - 0) ⟨([]:List Int),0,j,c0,ch0,ihY,ihl,ihi,rfl,rfl⟩ ?_
  rintro M s ⟨Y,i,j,c,ch,hY,hl,hi,rfl,rfl⟩
  by_cases hlt:i<256
  · skip
    refine(aTb3 Y i j hY hl hi hlt).mono ?_
    rintro e s ⟨rfl,j,c,ch,f0,f1,f2,rfl⟩
    exact .inl ⟨rfl,256 - (i+1),by omega,⟨(Y ++ [(sbv ((i%256:Nat):Int))]),(i+1),j,c,ch,f0,f1,f2,rfl,rfl⟩⟩
  · refine (aTb4 Y i j hY hl hi hlt).mono ?_
    intro e s hh
    obtain⟨rfl,j,c,ch,f0,rfl⟩:=hh
    exact .inr ⟨by simp,rfl,Y,i,j,c,ch,f0,rfl⟩
theorem aTb5  (j:Nat→Value) (ihY:([]:List Int)=tbI 0) (ihl:([]:List Int).length=0) (ihi:0≤256)  {c0:Prop} {ch0:List (Option Value)}:Runs Try.prog (cAt [1,1,0,1] (bdy Try.f32)) ⟨aTbD_s ([]:List Int) 0 j,aTbD_m ([]:List Int) 0,c0,ch0⟩ (fun e s=>e= .normal∧∃(Y:List Int) (i:Nat) (j:Nat→Value) (c:Prop) (ch:List (Option Value)),(Y=sbT)∧s=⟨aTbE_s Y i j,aTbE_m Y i,c,ch⟩) 0:=by
  rw[show(cAt [1,1,0,1] (bdy Try.f32))= .block 0 (.loop (cAt [1,1,0,1,0,0] (bdy Try.f32))) from by kernel_rfl]
  refine runs_block (aTb5L  j ihY ihl ihi ) ?_
  rintro e s ⟨rfl,hh⟩
  exact .inl ⟨rfl,rfl,hh⟩
theorem aTb6  (j:Nat→Value)   {c0:Prop} {ch0:List (Option Value)}:Runs Try.prog (cAt [1,1,0] (bdy Try.f32)) ⟨aTbC_s j,aTbC_m,c0,ch0⟩ (fun e s=>e= .normal∧∃(Y1:List Int) (i1:Nat) (j:Nat→Value) (c:Prop) (ch:List (Option Value)),(Y1=sbT)∧s=⟨aTbE_s Y1 i1 j,aTbE_m Y1 i1,c,ch⟩) 0:=by
  rw[show(cAt [1,1,0] (bdy Try.f32))=(.seq (cAt [1,1,0,0] (bdy Try.f32)) (cAt [1,1,0,1] (bdy Try.f32))) from by kernel_rfl]
  refine runs_seq (aTb2  j  ) (fun s hh=> ?_) (fun e s hne hh=>absurd hh.1 hne)
  obtain⟨_,j,c,ch,f0_0,f0_1,f0_2,rfl⟩:=hh
  refine(aTb5  j f0_0 f0_1 f0_2 ).mono ?_
  rintro e s ⟨rfl,Y1,i1,j,c,ch,f1_0,rfl⟩
  exact⟨rfl,Y1,i1,j,c,ch,f1_0,rfl⟩
abbrev aTbF_s (Y:List Int) (i:Nat) (j:Nat→Value):List Value:=([.pointer (some ⟨0,0,none⟩),.pointer (some ⟨1,0,none⟩)] ++ (J j 2 11))
abbrev aTbF_m (Y:List Int) (i:Nat):List Mb:= [((wA .u8 256 Y),(53,(0,0))),((wA .u8 256 Y),(53,(0,0)))]
def aTb7p_h (i:Nat):Hn:=⟨0,[],[],[],[]⟩
def aTb7p_b (Y:List Int) (i:Nat) (j:Nat→Value):List Value:=([.pointer (some ⟨0,0,none⟩),.pointer (some ⟨1,0,none⟩)] ++ (J j 2 10 ++ ([.agg (wA .u8 256 Y)])))
theorem aTb7p_0 (Y:List Int) (i:Nat) (j:Nat→Value):evC (yty.en tabF2) aTb7p_h (cAt [1,1,1] (bdy Try.f32)) ⟨aTbE_s Y i j,aTbE_m Y i,True,[]⟩=some (.ret,⟨aTb7p_b Y i j,[((wA .u8 256 Y),(53,(0,0))),((wA .u8 256 Y),(53,(0,0)))],((True∧True)∧((wA .u8 256 Y).all (fun v=>v.oneCell')=true)),[]⟩):=by kernel_rfl
theorem aTb7 (Y:List Int) (i:Nat) (j:Nat→Value) (hY:Y=sbT)  {c0:Prop} {ch0:List (Option Value)}:Runs Try.prog (cAt [1,1,1] (bdy Try.f32)) ⟨aTbE_s Y i j,aTbE_m Y i,c0,ch0⟩ (fun e s=>e= .ret∧∃(j:Nat→Value) (c:Prop) (ch:List (Option Value)),s=⟨aTbF_s Y i j,aTbF_m Y i,c,ch⟩) 0:=by
  refine(runs_ev mixed _ (aTb7p_0 Y i j) ⟨⟨trivial,trivial⟩,(wA_one _ _ _)⟩).mono ?_
  rintro e s ⟨rfl,hs⟩
  refine⟨rfl,fun q=>s.tm.getD q undef,s.c,s.ch,?_⟩
  subst hs
  kernel_rfl
theorem aTbu  (j:Nat→Value)   {c0:Prop} {ch0:List (Option Value)}:Runs Try.prog (cAt [] (bdy Try.f32)) ⟨aTbA_s j,aTbA_m,c0,ch0⟩ (fun e s=>e= .ret∧∃(Y12:List Int) (i12:Nat) (j:Nat→Value) (c:Prop) (ch:List (Option Value)),(Y12=sbT)∧s=⟨aTbF_s Y12 i12 j,aTbF_m Y12 i12,c,ch⟩) 0:=by
  rw[show(cAt [] (bdy Try.f32))=(.seq (cAt [0] (bdy Try.f32)) (.seq (cAt [1,0] (bdy Try.f32)) (.seq (cAt [1,1,0] (bdy Try.f32)) (cAt [1,1,1] (bdy Try.f32))))) from by kernel_rfl]
  refine runs_seq (aTb0  j  ) (fun s hh=> ?_) (fun e s hne hh=>absurd hh.1 hne)
  obtain⟨_,j,c,ch,rfl⟩:=hh
  refine runs_seq (aTb1  j  ) (fun s hh=> ?_) (fun e s hne hh=>absurd hh.1 hne)
  obtain⟨_,j,c,ch,rfl⟩:=hh
  refine runs_seq (aTb6  j  ) (fun s hh=> ?_) (fun e s hne hh=>absurd hh.1 hne)
  obtain⟨_,Y12,i12,j,c,ch,f2_0,rfl⟩:=hh
  refine(aTb7 Y12 i12 j f2_0 ).mono ?_
  rintro e s ⟨rfl,j,c,ch,rfl⟩
  exact⟨rfl,Y12,i12,j,c,ch,f2_0,rfl⟩
theorem aTb_c:Pure Try.prog 32 #[] (.agg (wA .u8 256 sbT)):=by
  refine pure_runs (E:=(yty.en tabF2)) Try.func32 (c:=bdy Try.f32) (by kernel_rfl) (args:= []) (by kernel_rfl) (K:=fun e s=>e= .ret∧resS (yty.en tabF2) s Try.f32.results.toList=some [.agg (wA .u8 256 sbT)]) ?_ (fun e s h=>⟨h.1,_,h.2,rfl⟩)
  refine(aTbu (fun _=>undef)).mono ?_
  rintro e s ⟨rfl,hh⟩
  obtain⟨Y0,i0,j,c,ch,hY,rfl⟩:=hh
  rw[← hY]
  exact⟨rfl,by kernel_rfl⟩
def ptb:Entry Try.prog:=ent0 Try.func32 (by kernel_rfl) (by kernel_rfl) (.agg (wA .u8 256 sbT)) aTb_c
def tabF3:List (Entry Try.prog):=ptb :: tabF2
end Go.Proofs.Ythldpfindbhkeaa
