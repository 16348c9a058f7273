import Derived.Test.YtnadkbniljejfaaZSPvalSiM1
import Derived.Test.YtnadkbniljejfaaZSPvalSiC1
import Derived.Test.YtnadkbniljejfaaZSPvalEvW1
import Derived.Test.YtnadkbniljejfaaZSPvalAeX1
import Derived.Test.YtnadkbniljejfaaZSPvalSiE1
set_option linter.unusedSimpArgs false
set_option linter.unusedVariables false
/-! siv: the document's dot. -/
namespace Go.Proofs.Ytnadkbniljejfaa
open Go.RowKit Go.Ev
abbrev dPoA_s (L:List Int) (j:Nat→Value):List Value:=([.agg (wA .u8 16 L)] ++ (JU 20))
abbrev dPoA_m (L:List Int):List Mb:= []
abbrev dPoB_s (L:List Int) (j:Nat→Value):List Value:=([j 0,.pointer (some ⟨0,0,none⟩),.pointer (some ⟨1,0,none⟩)] ++ (J j 3 18))
abbrev dPoB_m (L:List Int):List Mb:= [((wA .u8 16 L),(22,(0,0))),((wA .i64 128 []),(47,(0,0)))]
def dPo0p_h (i:Nat):Hn:=⟨0,[],[],[],[]⟩
def dPo0p_b (L:List Int) (j:Nat→Value):List Value:=([.agg (wA .u8 16 L),.pointer (some ⟨0,0,none⟩),.pointer (some ⟨1,0,none⟩)] ++ (JU 18))
theorem dPo0p_0 (L:List Int) (j:Nat→Value):evC (yty.en tabV0) dPo0p_h (cAt [0] (bdy Try.f27)) ⟨dPoA_s L j,dPoA_m L,True,[]⟩=some (.normal,⟨dPo0p_b L j,[((wA .u8 16 L),(22,(0,0))),((wA .i64 128 []),(47,(0,0)))],True,[]⟩):=by kernel_rfl
theorem dPo0 (L:List Int) (j:Nat→Value) (hL:By L)  {c0:Prop} {ch0:List (Option Value)}:Runs Try.prog (cAt [0] (bdy Try.f27)) ⟨dPoA_s L j,dPoA_m L,c0,ch0⟩ (fun e s=>e= .normal∧∃(j:Nat→Value) (c:Prop) (ch:List (Option Value)),s=⟨dPoB_s L j,dPoB_m L,c,ch⟩) 0:=by
  refine(runs_ev mixed _ (dPo0p_0 L j) trivial).mono ?_
  rintro e s ⟨rfl,hs⟩
  refine⟨rfl,fun q=>s.tm.getD q undef,s.c,s.ch,?_⟩
  subst hs
  kernel_rfl
abbrev dPoC_s (L:List Int) (j:Nat→Value):List Value:=([j 0,.pointer (some ⟨0,0,none⟩),.pointer (some ⟨1,0,none⟩),.pointer (some ⟨2,0,none⟩)] ++ (J j 4 17))
abbrev dPoC_m (L:List Int):List Mb:= [((wA .u8 16 L),(22,(0,0))),((wA .i64 128 []),(47,(0,0))),((wA .i64 128 []),(47,(0,0)))]
def dPo1p_h (i:Nat):Hn:=⟨0,[],[],[],[]⟩
def dPo1p_b (L:List Int) (j:Nat→Value):List Value:=([j 0,.pointer (some ⟨0,0,none⟩),.pointer (some ⟨1,0,none⟩),.pointer (some ⟨2,0,none⟩)] ++ (J j 4 17))
theorem dPo1p_0 (L:List Int) (j:Nat→Value):evC (yty.en tabV0) dPo1p_h (cAt [1,0] (bdy Try.f27)) ⟨dPoB_s L j,dPoB_m L,True,[]⟩=some (.normal,⟨dPo1p_b L j,[((wA .u8 16 L),(22,(0,0))),((wA .i64 128 []),(47,(0,0))),((wA .i64 128 []),(47,(0,0)))],True,[]⟩):=by kernel_rfl
theorem dPo1 (L:List Int) (j:Nat→Value) (hL:By L)  {c0:Prop} {ch0:List (Option Value)}:Runs Try.prog (cAt [1,0] (bdy Try.f27)) ⟨dPoB_s L j,dPoB_m L,c0,ch0⟩ (fun e s=>e= .normal∧∃(j:Nat→Value) (c:Prop) (ch:List (Option Value)),s=⟨dPoC_s L j,dPoC_m L,c,ch⟩) 0:=by
  refine(runs_ev mixed _ (dPo1p_0 L j) trivial).mono ?_
  rintro e s ⟨rfl,hs⟩
  refine⟨rfl,fun q=>s.tm.getD q undef,s.c,s.ch,?_⟩
  subst hs
  kernel_rfl
abbrev dPoD_s (L:List Int) (i:Nat) (j:Nat→Value):List Value:=([j 0,.pointer (some ⟨0,0,none⟩),.pointer (some ⟨1,0,none⟩),.pointer (some ⟨2,0,none⟩),.int .i64 ((i:Nat):Int)] ++ (J j 5 16))
abbrev dPoD_m (L:List Int) (i:Nat):List Mb:= [((wA .u8 16 L),(22,(0,0))),((wA .i64 128 []),(47,(0,0))),((wA .i64 128 (pL (zm (nL L) i))),(47,(0,0)))]
theorem po_val {L:List Int} (h:By L) {i:Nat} (hi:i<128):Int.tmod (IntKind.i64.wrap ((L.getD (i / 8) 0) / 2 ^ (min (Int.toNat ((i%8:Nat):Int)) 8))) 2=bti (nL L) i:=by
  obtain⟨e,hb⟩:=byNq h (i / 8)
  have hr:i%8<8:=Nat.mod_lt _ (by decide)
  have e1:L.getD (i / 8) 0 / 2 ^ (min (Int.toNat ((i%8:Nat):Int)) 8)=(((L.getD (i / 8) 0).toNat / 2 ^ (i%8):Nat):Int):=by
    rw[Int.toNat_natCast,Nat.min_eq_left (by omega)]
    generalize(L.getD (i / 8) 0).toNat=b at e
    rw[e]
    have:(2:Int) ^ (i%8)=((2 ^ (i%8):Nat):Int):=by simp
    rw[this];rfl
  have hz:(L.getD (i / 8) 0).toNat / 2 ^ (i%8)<256:=Nat.lt_of_le_of_lt (Nat.div_le_self _ _) hb
  unfold bti
  rw[e1,nL_bit h hi]
  generalize(L.getD (i / 8) 0).toNat / 2 ^ (i%8)=z at hz
  rw[IntKind.wrap_i64,show(((z:Nat):Int)+9223372036854775808)%18446744073709551616 - 9223372036854775808=((z:Nat):Int) by omega]
  rw[show(2:Int)=((2:Nat):Int) from rfl,tmodN]
  by_cases h1:z%2=1
  · rw[h1];rfl
  · rw[show z%2=0 by omega];rfl
def dPo2p_h (i:Nat):Hn:=⟨0,[],[],[],[]⟩
def dPo2p_b (L:List Int) (i:Nat) (j:Nat→Value):List Value:=([j 0,.pointer (some ⟨0,0,none⟩),.pointer (some ⟨1,0,none⟩),.pointer (some ⟨2,0,none⟩),.int .i64 ((i+1:Nat):Int),.int .i64 ((i:Nat):Int),.bool true,.int .i64 ((i:Nat):Int),.int .i64 ((i+1:Nat):Int),.int .i64 ((i:Nat):Int),.int .i64 ((i:Nat):Int),.int .i64 ((i / 8:Nat):Int),.pointer (some ⟨0,0+Int.toNat ((i / 8:Nat):Int)*1,none⟩),.int .u8 (L.getD (i / 8) 0),.int .i64 ((i:Nat):Int),.int .i64 ((i%8:Nat):Int),.int .u8 ((L.getD (i / 8) 0) / 2 ^ (min (Int.toNat ((i%8:Nat):Int)) 8)),.int .i64 (IntKind.i64.wrap ((L.getD (i / 8) 0) / 2 ^ (min (Int.toNat ((i%8:Nat):Int)) 8))),.int .i64 (Int.tmod (IntKind.i64.wrap ((L.getD (i / 8) 0) / 2 ^ (min (Int.toNat ((i%8:Nat):Int)) 8))) 2),.pointer (some ⟨2,0+Int.toNat ((i:Nat):Int)*1,none⟩),j 20])
theorem dPo2p_0 (L:List Int) (i:Nat) (j:Nat→Value):evC (yty.en tabV0) dPo2p_h (cAt [1,1,0,1,0,0] (bdy Try.f27)) ⟨dPoD_s L i j,dPoD_m L i,True,[some (.bool true),some (.int .i64 ((i / 8:Nat):Int)),some (.int .u8 (L.getD (i / 8) 0)),some (.int .i64 ((i%8:Nat):Int)),none,none,none,some (.agg (wA .i64 128 (pL (zm (nL L) (i+1))))),some (.int .i64 ((i+1:Nat):Int))]⟩=some (.normal,⟨dPo2p_b L i j,[((wA .u8 16 L),(22,(0,0))),((wA .i64 128 []),(47,(0,0))),((wA .i64 128 (pL (zm (nL L) (i+1)))),(47,(0,0)))],(((((((((((((((((True∧True)∧(True∧(decide (((i:Nat):Int)<128))=true))∧True)∧True)∧(((8:Int)≠0)∧(IntKind.i64.wrap (Int.tdiv ((i:Nat):Int) 8))=((i / 8:Nat):Int)))∧(0≤((i / 8:Nat):Int)∧((i / 8:Nat):Int)<((16:Nat):Int)))∧(((wA .u8 16 L)[(0+Int.toNat ((i / 8:Nat):Int)*1)]? =some (.int .u8 (L.getD (i / 8) 0)))∧(L.getD (i / 8) 0)=(L.getD (i / 8) 0)))∧True)∧(((8:Int)≠0)∧(Int.tmod ((i:Nat):Int) 8)=((i%8:Nat):Int)))∧(0≤((i%8:Nat):Int)))∧True)∧((2:Int)≠0))∧(0≤((i:Nat):Int)∧((i:Nat):Int)<((128:Nat):Int)))∧((0+Int.toNat ((i:Nat):Int)*1)<(wA .i64 128 (pL (zm (nL L) i))).size∧(wA .i64 128 (pL (zm (nL L) i))).setIfInBounds (0+Int.toNat ((i:Nat):Int)*1) (.int .i64 (Int.tmod (IntKind.i64.wrap ((L.getD (i / 8) 0) / 2 ^ (min (Int.toNat ((i%8:Nat):Int)) 8))) 2))=(wA .i64 128 (pL (zm (nL L) (i+1))))))∧True)∧(True∧(IntKind.i64.wrap (((i:Nat):Int)+1))=((i+1:Nat):Int)))∧True),[]⟩):=by kernel_rfl
theorem dPo2 (L:List Int) (i:Nat) (j:Nat→Value) (hL:By L) (hi:i≤128) (hlt:i<128) {c0:Prop} {ch0:List (Option Value)}:Runs Try.prog (cAt [1,1,0,1,0,0] (bdy Try.f27)) ⟨dPoD_s L i j,dPoD_m L i,c0,ch0⟩ (fun e s=>e= .normal∧∃(j:Nat→Value) (c:Prop) (ch:List (Option Value)),((i+1)≤128)∧s=⟨dPoD_s L (i+1) j,dPoD_m L (i+1),c,ch⟩) 0:=by
  have h0:(decide (((i:Nat):Int)<128))=true:=(decide_eq_true (by omega))
  refine(runs_ev mixed _ (dPo2p_0 L i j) ⟨⟨⟨⟨⟨⟨⟨⟨⟨⟨⟨⟨⟨⟨⟨⟨⟨trivial,trivial⟩,⟨trivial,h0⟩⟩,trivial⟩,trivial⟩,⟨(by decide),(by exact tdivN_i64 i 8 (by omega))⟩⟩,(by(try simp only[Int.toNat_natCast,wA_size]);omega)⟩,⟨(wA_get (by omega) (by omega)),rfl⟩⟩,trivial⟩,⟨(by decide),(by exact tmodN i 8)⟩⟩,(by omega)⟩,trivial⟩,(by decide)⟩,(by(try simp only[Int.toNat_natCast,wA_size]);omega)⟩,pL_put hlt (by rw[Int.toNat_natCast];omega) (fun k _=>bt_zm _ _ (po_val hL hlt) k)⟩,trivial⟩,⟨trivial,(by rw[IntKind.wrap_i64];omega)⟩⟩,trivial⟩).mono ?_
  rintro e s ⟨rfl,hs⟩
  refine⟨rfl,fun q=>s.tm.getD q undef,s.c,s.ch,by omega,?_⟩
  subst hs
  kernel_rfl
abbrev dPoE_s (L:List Int) (i:Nat) (j:Nat→Value):List Value:=([j 0,.pointer (some ⟨0,0,none⟩),.pointer (some ⟨1,0,none⟩),.pointer (some ⟨2,0,none⟩),.int .i64 ((i:Nat):Int)] ++ (J j 5 16))
abbrev dPoE_m (L:List Int) (i:Nat):List Mb:= [((wA .u8 16 L),(22,(0,0))),((wA .i64 128 []),(47,(0,0))),((wA .i64 128 (pL (nL L))),(47,(0,0)))]
def dPo3p_h (i:Nat):Hn:=⟨0,[],[],[],[]⟩
def dPo3p_b (L:List Int) (i:Nat) (j:Nat→Value):List Value:=([j 0,.pointer (some ⟨0,0,none⟩),.pointer (some ⟨1,0,none⟩),.pointer (some ⟨2,0,none⟩),.int .i64 ((i:Nat):Int),.int .i64 ((i:Nat):Int),.bool false] ++ (J j 7 14))
theorem dPo3p_0 (L:List Int) (i:Nat) (j:Nat→Value):evC (yty.en tabV0) dPo3p_h (cAt [1,1,0,1,0,0] (bdy Try.f27)) ⟨dPoD_s L i j,dPoD_m L i,True,[some (.bool false)]⟩=some ((.exit 0),⟨dPo3p_b L i j,[((wA .u8 16 L),(22,(0,0))),((wA .i64 128 []),(47,(0,0))),((wA .i64 128 (pL (zm (nL L) i))),(47,(0,0)))],((True∧True)∧(True∧(decide (((i:Nat):Int)<128))=false)),[]⟩):=by kernel_rfl
theorem dPo3 (L:List Int) (i:Nat) (j:Nat→Value) (hL:By L) (hi:i≤128) (hge:¬ i<128) {c0:Prop} {ch0:List (Option Value)}:Runs Try.prog (cAt [1,1,0,1,0,0] (bdy Try.f27)) ⟨dPoD_s L i j,dPoD_m L i,c0,ch0⟩ (fun e s=>e=(.exit 0)∧∃(j:Nat→Value) (c:Prop) (ch:List (Option Value)),s=⟨dPoE_s L i j,dPoE_m L i,c,ch⟩) 0:=by
  have h0:(decide (((i:Nat):Int)<128))=false:=(decide_eq_false (by omega))
  refine(runs_ev mixed _ (dPo3p_0 L i j) ⟨⟨trivial,trivial⟩,⟨trivial,h0⟩⟩).mono ?_
  rintro e s ⟨rfl,hs⟩
  refine⟨rfl,fun q=>s.tm.getD q undef,s.c,s.ch,?_⟩
  subst hs
  rw[show i=128 by omega,zm_eq,pL_mod]
  kernel_rfl
def dPo4p_h (i:Nat):Hn:=⟨0,[],[],[],[]⟩
def dPo4p_b (L:List Int) (j:Nat→Value):List Value:=([j 0,.pointer (some ⟨0,0,none⟩),.pointer (some ⟨1,0,none⟩),.pointer (some ⟨2,0,none⟩),.int .i64 0] ++ (J j 5 16))
theorem dPo4p_0 (L:List Int) (j:Nat→Value):evC (yty.en tabV0) dPo4p_h (cAt [1,1,0,0] (bdy Try.f27)) ⟨dPoC_s L j,dPoC_m L,True,[]⟩=some (.normal,⟨dPo4p_b L j,[((wA .u8 16 L),(22,(0,0))),((wA .i64 128 []),(47,(0,0))),((wA .i64 128 []),(47,(0,0)))],(True∧True),[]⟩):=by kernel_rfl
theorem dPo4 (L:List Int) (j:Nat→Value) (hL:By L)  {c0:Prop} {ch0:List (Option Value)}:Runs Try.prog (cAt [1,1,0,0] (bdy Try.f27)) ⟨dPoC_s L j,dPoC_m L,c0,ch0⟩ (fun e s=>e= .normal∧∃(j:Nat→Value) (c:Prop) (ch:List (Option Value)),(0≤128)∧s=⟨dPoD_s L 0 j,dPoD_m L 0,c,ch⟩) 0:=by
  refine(runs_ev mixed _ (dPo4p_0 L j) ⟨trivial,trivial⟩).mono ?_
  rintro e s ⟨rfl,hs⟩
  refine⟨rfl,fun q=>s.tm.getD q undef,s.c,s.ch,by omega,?_⟩
  subst hs
  kernel_rfl
theorem dPo5L (L:List Int) (j:Nat→Value) (hL:By L) (ihi:0≤128)  {c0:Prop} {ch0:List (Option Value)}:Runs Try.prog (.loop (cAt [1,1,0,1,0,0] (bdy Try.f27))) ⟨dPoD_s L 0 j,dPoD_m L 0,c0,ch0⟩ (fun e s=>e= .exit 0∧∃(i:Nat) (j:Nat→Value) (c:Prop) (ch:List (Option Value)),s=⟨dPoE_s L i j,dPoE_m L i,c,ch⟩) 0:=by
  refine runs_loop (fun M s=>∃(i:Nat) (j:Nat→Value) (c:Prop) (ch:List (Option Value)),(i≤128)∧M=128 - i∧s=⟨dPoD_s L i j,dPoD_m L i,c,ch⟩) (128 - 0) ⟨0,j,c0,ch0,ihi,rfl,rfl⟩ ?_
  rintro M s ⟨i,j,c,ch,hi,rfl,rfl⟩
  by_cases hlt:i<128
  · skip
    refine(dPo2 L i j hL hi hlt).mono ?_
    rintro e s ⟨rfl,j,c,ch,f1,rfl⟩
    exact .inl ⟨rfl,128 - (i+1),by omega,⟨(i+1),j,c,ch,f1,rfl,rfl⟩⟩
  · refine (dPo3 L i j hL hi hlt).mono ?_
    intro e s hh
    obtain⟨rfl,j,c,ch,rfl⟩:=hh
    exact .inr ⟨by simp,rfl,i,j,c,ch,rfl⟩
theorem dPo5 (L:List Int) (j:Nat→Value) (hL:By L) (ihi:0≤128)  {c0:Prop} {ch0:List (Option Value)}:Runs Try.prog (cAt [1,1,0,1] (bdy Try.f27)) ⟨dPoD_s L 0 j,dPoD_m L 0,c0,ch0⟩ (fun e s=>e= .normal∧∃(i:Nat) (j:Nat→Value) (c:Prop) (ch:List (Option Value)),s=⟨dPoE_s L i j,dPoE_m L i,c,ch⟩) 0:=by
  rw[show(cAt [1,1,0,1] (bdy Try.f27))= .block 0 (.loop (cAt [1,1,0,1,0,0] (bdy Try.f27))) from by kernel_rfl]
  refine runs_block (dPo5L L j hL ihi ) ?_
  rintro e s ⟨rfl,hh⟩
  exact .inl ⟨rfl,rfl,hh⟩
theorem dPo6 (L:List Int) (j:Nat→Value) (hL:By L)  {c0:Prop} {ch0:List (Option Value)}:Runs Try.prog (cAt [1,1,0] (bdy Try.f27)) ⟨dPoC_s L j,dPoC_m L,c0,ch0⟩ (fun e s=>e= .normal∧∃(i1:Nat) (j:Nat→Value) (c:Prop) (ch:List (Option Value)),s=⟨dPoE_s L i1 j,dPoE_m L i1,c,ch⟩) 0:=by
  rw[show(cAt [1,1,0] (bdy Try.f27))=(.seq (cAt [1,1,0,0] (bdy Try.f27)) (cAt [1,1,0,1] (bdy Try.f27))) from by kernel_rfl]
  refine runs_seq (dPo4 L j hL ) (fun s hh=> ?_) (fun e s hne hh=>absurd hh.1 hne)
  obtain⟨_,j,c,ch,f0_1,rfl⟩:=hh
  refine(dPo5 L j hL f0_1 ).mono ?_
  rintro e s ⟨rfl,i1,j,c,ch,rfl⟩
  exact⟨rfl,i1,j,c,ch,rfl⟩
abbrev dPoF_s (L:List Int) (i:Nat) (j:Nat→Value):List Value:=([j 0,j 1,.pointer (some ⟨1,0,none⟩)] ++ (J j 3 18))
abbrev dPoF_m (L:List Int) (i:Nat):List Mb:= [((wA .u8 16 L),(22,(0,0))),((wA .i64 128 (pL (nL L))),(47,(0,0))),((wA .i64 128 (pL (nL L))),(47,(0,0)))]
def dPo7p_h (i:Nat):Hn:=⟨0,[],[],[],[]⟩
def dPo7p_b (L:List Int) (i:Nat) (j:Nat→Value):List Value:=([j 0,.pointer (some ⟨0,0,none⟩),.pointer (some ⟨1,0,none⟩),.pointer (some ⟨2,0,none⟩),.int .i64 ((i:Nat):Int)] ++ (J j 5 15 ++ ([.agg (wA .i64 128 (pL (nL L)))])))
theorem dPo7p_0 (L:List Int) (i:Nat) (j:Nat→Value):evC (yty.en tabV0) dPo7p_h (cAt [1,1,1] (bdy Try.f27)) ⟨dPoE_s L i j,dPoE_m L i,True,[]⟩=some (.ret,⟨dPo7p_b L i j,[((wA .u8 16 L),(22,(0,0))),((wA .i64 128 (pL (nL L))),(47,(0,0))),((wA .i64 128 (pL (nL L))),(47,(0,0)))],((True∧True)∧((wA .i64 128 (pL (nL L))).all (fun v=>v.oneCell')=true)),[]⟩):=by kernel_rfl
theorem dPo7 (L:List Int) (i:Nat) (j:Nat→Value) (hL:By L)  {c0:Prop} {ch0:List (Option Value)}:Runs Try.prog (cAt [1,1,1] (bdy Try.f27)) ⟨dPoE_s L i j,dPoE_m L i,c0,ch0⟩ (fun e s=>e= .ret∧∃(j:Nat→Value) (c:Prop) (ch:List (Option Value)),s=⟨dPoF_s L i j,dPoF_m L i,c,ch⟩) 0:=by
  refine(runs_ev mixed _ (dPo7p_0 L i j) ⟨⟨trivial,trivial⟩,(wA_one _ _ _)⟩).mono ?_
  rintro e s ⟨rfl,hs⟩
  refine⟨rfl,fun q=>s.tm.getD q undef,s.c,s.ch,?_⟩
  subst hs
  kernel_rfl
theorem dPou (L:List Int) (j:Nat→Value) (hL:By L)  {c0:Prop} {ch0:List (Option Value)}:Runs Try.prog (cAt [] (bdy Try.f27)) ⟨dPoA_s L j,dPoA_m L,c0,ch0⟩ (fun e s=>e= .ret∧∃(i12:Nat) (j:Nat→Value) (c:Prop) (ch:List (Option Value)),s=⟨dPoF_s L i12 j,dPoF_m L i12,c,ch⟩) 0:=by
  rw[show(cAt [] (bdy Try.f27))=(.seq (cAt [0] (bdy Try.f27)) (.seq (cAt [1,0] (bdy Try.f27)) (.seq (cAt [1,1,0] (bdy Try.f27)) (cAt [1,1,1] (bdy Try.f27))))) from by kernel_rfl]
  refine runs_seq (dPo0 L j hL ) (fun s hh=> ?_) (fun e s hne hh=>absurd hh.1 hne)
  obtain⟨_,j,c,ch,rfl⟩:=hh
  refine runs_seq (dPo1 L j hL ) (fun s hh=> ?_) (fun e s hne hh=>absurd hh.1 hne)
  obtain⟨_,j,c,ch,rfl⟩:=hh
  refine runs_seq (dPo6 L j hL ) (fun s hh=> ?_) (fun e s hne hh=>absurd hh.1 hne)
  obtain⟨_,i12,j,c,ch,rfl⟩:=hh
  refine(dPo7 L i12 j hL ).mono ?_
  rintro e s ⟨rfl,j,c,ch,rfl⟩
  exact⟨rfl,i12,j,c,ch,rfl⟩
theorem dPo_c (L:List Int) (hL:By L):Pure Try.prog 27 #[.agg (wA .u8 16 L)] (.agg (wA .i64 128 (pL (nL L)))):=by
  refine pure_runs (E:=(yty.en tabV0)) Try.func27 (c:=bdy Try.f27) (by kernel_rfl) (args:= [.agg (wA .u8 16 L)]) (by kernel_rfl) (K:=fun e s=>e= .ret∧resS (yty.en tabV0) s Try.f27.results.toList=some [.agg (wA .i64 128 (pL (nL L)))]) ?_ (fun e s h=>⟨h.1,_,h.2,rfl⟩)
  refine(dPou L (fun _=>undef) hL).mono ?_
  rintro e s ⟨rfl,i,j,c,ch,rfl⟩
  exact⟨rfl,by kernel_rfl⟩
abbrev dTmA_s (a b:Nat) (j:Nat→Value):List Value:=([.agg (wA .i64 128 (pL a)),.agg (wA .i64 128 (pL b))] ++ (JU 86))
abbrev dTmA_m (a b:Nat):List Mb:= []
abbrev dTmB_s (a b:Nat) (j:Nat→Value):List Value:=([j 0,j 1,.pointer (some ⟨0,0,none⟩),.pointer (some ⟨1,0,none⟩),.pointer (some ⟨2,0,none⟩)] ++ (J j 5 83))
abbrev dTmB_m (a b:Nat):List Mb:= [((wA .i64 128 (pL a)),(47,(0,0))),((wA .i64 128 (pL b)),(47,(0,0))),((wA .i64 128 []),(47,(0,0)))]
def dTm0p_h (i:Nat):Hn:=if i=9 then⟨13,[],[],[],[]⟩ else⟨0,[],[],[],[]⟩
def dTm0p_b (a b:Nat) (j:Nat→Value):List Value:=([.agg (wA .i64 128 (pL a)),.agg (wA .i64 128 (pL b)),.pointer (some ⟨0,0,none⟩),.pointer (some ⟨1,0,none⟩),.pointer (some ⟨2,0,none⟩)] ++ (JU 83))
theorem dTm0p_0 (a b:Nat) (j:Nat→Value):evC (yty.en tabV0) dTm0p_h (cAt [0] (bdy Try.f28)) ⟨dTmA_s a b j,dTmA_m a b,True,[]⟩=some (.normal,⟨dTm0p_b a b j,[((wA .i64 128 (pL a)),(47,(0,0))),((wA .i64 128 (pL b)),(47,(0,0))),((wA .i64 128 []),(47,(0,0)))],True,[]⟩):=by kernel_rfl
theorem dTm0 (a b:Nat) (j:Nat→Value) (ha:a<2 ^ 128) (hb:b<2 ^ 128)  {c0:Prop} {ch0:List (Option Value)}:Runs Try.prog (cAt [0] (bdy Try.f28)) ⟨dTmA_s a b j,dTmA_m a b,c0,ch0⟩ (fun e s=>e= .normal∧∃(j:Nat→Value) (c:Prop) (ch:List (Option Value)),s=⟨dTmB_s a b j,dTmB_m a b,c,ch⟩) 0:=by
  refine(runs_ev mixed _ (dTm0p_0 a b j) trivial).mono ?_
  rintro e s ⟨rfl,hs⟩
  refine⟨rfl,fun q=>s.tm.getD q undef,s.c,s.ch,?_⟩
  subst hs
  kernel_rfl
abbrev dTmC_s (a b:Nat) (j:Nat→Value):List Value:=([j 0,j 1,.pointer (some ⟨0,0,none⟩),.pointer (some ⟨1,0,none⟩),.pointer (some ⟨2,0,none⟩),.pointer (some ⟨3,0,none⟩)] ++ (J j 6 82))
abbrev dTmC_m (a b:Nat):List Mb:= [((wA .i64 128 (pL a)),(47,(0,0))),((wA .i64 128 (pL b)),(47,(0,0))),((wA .i64 128 []),(47,(0,0))),((wA .i64 255 []),(63,(0,0)))]
def dTm1p_h (i:Nat):Hn:=if i=9 then⟨13,[],[],[],[]⟩ else⟨0,[],[],[],[]⟩
def dTm1p_b (a b:Nat) (j:Nat→Value):List Value:=([j 0,j 1,.pointer (some ⟨0,0,none⟩),.pointer (some ⟨1,0,none⟩),.pointer (some ⟨2,0,none⟩),.pointer (some ⟨3,0,none⟩)] ++ (J j 6 82))
theorem dTm1p_0 (a b:Nat) (j:Nat→Value):evC (yty.en tabV0) dTm1p_h (cAt [1,0] (bdy Try.f28)) ⟨dTmB_s a b j,dTmB_m a b,True,[]⟩=some (.normal,⟨dTm1p_b a b j,[((wA .i64 128 (pL a)),(47,(0,0))),((wA .i64 128 (pL b)),(47,(0,0))),((wA .i64 128 []),(47,(0,0))),((wA .i64 255 []),(63,(0,0)))],True,[]⟩):=by kernel_rfl
theorem dTm1 (a b:Nat) (j:Nat→Value) (ha:a<2 ^ 128) (hb:b<2 ^ 128)  {c0:Prop} {ch0:List (Option Value)}:Runs Try.prog (cAt [1,0] (bdy Try.f28)) ⟨dTmB_s a b j,dTmB_m a b,c0,ch0⟩ (fun e s=>e= .normal∧∃(j:Nat→Value) (c:Prop) (ch:List (Option Value)),s=⟨dTmC_s a b j,dTmC_m a b,c,ch⟩) 0:=by
  refine(runs_ev mixed _ (dTm1p_0 a b j) trivial).mono ?_
  rintro e s ⟨rfl,hs⟩
  refine⟨rfl,fun q=>s.tm.getD q undef,s.c,s.ch,?_⟩
  subst hs
  kernel_rfl
abbrev dTmD_s (a b:Nat) (i m:Nat) (j:Nat→Value):List Value:=([j 0,j 1,.pointer (some ⟨0,0,none⟩),.pointer (some ⟨1,0,none⟩),.pointer (some ⟨2,0,none⟩),.pointer (some ⟨3,0,none⟩),.int .i64 ((i:Nat):Int)] ++ (J j 7 81))
abbrev dTmD_m (a b:Nat) (i m:Nat):List Mb:= [((wA .i64 128 (pL a)),(47,(0,0))),((wA .i64 128 (pL b)),(47,(0,0))),((wA .i64 128 []),(47,(0,0))),((wA .i64 255 (pW m)),(63,(0,0)))]
def dTm2p_h (i:Nat):Hn:=if i=9 then⟨13,[],[],[],[]⟩ else⟨0,[],[],[],[]⟩
def dTm2p_b (a b:Nat) (j:Nat→Value):List Value:=([j 0,j 1,.pointer (some ⟨0,0,none⟩),.pointer (some ⟨1,0,none⟩),.pointer (some ⟨2,0,none⟩),.pointer (some ⟨3,0,none⟩),.int .i64 0] ++ (J j 7 81))
theorem dTm2p_0 (a b:Nat) (j:Nat→Value):evC (yty.en tabV0) dTm2p_h (cAt [1,1,0,0] (bdy Try.f28)) ⟨dTmC_s a b j,dTmC_m a b,True,[]⟩=some (.normal,⟨dTm2p_b a b j,[((wA .i64 128 (pL a)),(47,(0,0))),((wA .i64 128 (pL b)),(47,(0,0))),((wA .i64 128 []),(47,(0,0))),((wA .i64 255 []),(63,(0,0)))],(True∧True),[]⟩):=by kernel_rfl
theorem dTm2 (a b:Nat) (j:Nat→Value) (ha:a<2 ^ 128) (hb:b<2 ^ 128)  {c0:Prop} {ch0:List (Option Value)}:Runs Try.prog (cAt [1,1,0,0] (bdy Try.f28)) ⟨dTmC_s a b j,dTmC_m a b,c0,ch0⟩ (fun e s=>e= .normal∧∃(j:Nat→Value) (c:Prop) (ch:List (Option Value)),(0=cm a b 0)∧(0≤128)∧s=⟨dTmD_s a b 0 0 j,dTmD_m a b 0 0,c,ch⟩) 0:=by
  refine(runs_ev mixed _ (dTm2p_0 a b j) ⟨trivial,trivial⟩).mono ?_
  rintro e s ⟨rfl,hs⟩
  refine⟨rfl,fun q=>s.tm.getD q undef,s.c,s.ch,rfl,by omega,?_⟩
  subst hs
  rw[pW_0]
  kernel_rfl
def dTm3p_h (i:Nat):Hn:=if i=9 then⟨13,[],[],[],[]⟩ else⟨0,[],[],[],[]⟩
def dTm3p_b (a b:Nat) (i m:Nat) (j:Nat→Value):List Value:=([j 0,j 1,.pointer (some ⟨0,0,none⟩),.pointer (some ⟨1,0,none⟩),.pointer (some ⟨2,0,none⟩),.pointer (some ⟨3,0,none⟩),.int .i64 ((i+1:Nat):Int)] ++ (J j 7 4 ++ ([.int .i64 ((i:Nat):Int),.bool true,.int .i64 ((i:Nat):Int),.int .i64 ((i+1:Nat):Int),.int .i64 ((i:Nat):Int),.pointer (some ⟨0,0+Int.toNat ((i:Nat):Int)*1,none⟩),.int .i64 ((pL a).getD i 0),.bool true] ++ (J j 19 69))))
theorem dTm3p_0 (a b:Nat) (i m:Nat) (j:Nat→Value):evC (yty.en tabV0) dTm3p_h (cAt [1,1,0,1,0,0] (bdy Try.f28)) ⟨dTmD_s a b i m j,dTmD_m a b i m,True,[some (.bool true),some (.int .i64 ((pL a).getD i 0)),some (.bool true),some (.int .i64 ((i+1:Nat):Int))]⟩=some (.normal,⟨dTm3p_b a b i m j,[((wA .i64 128 (pL a)),(47,(0,0))),((wA .i64 128 (pL b)),(47,(0,0))),((wA .i64 128 []),(47,(0,0))),((wA .i64 255 (pW m)),(63,(0,0)))],(((((((((True∧True)∧(True∧(decide (((i:Nat):Int)<128))=true))∧True)∧(0≤((i:Nat):Int)∧((i:Nat):Int)<((128:Nat):Int)))∧(((wA .i64 128 (pL a))[(0+Int.toNat ((i:Nat):Int)*1)]? =some (.int .i64 ((pL a).getD i 0)))∧((pL a).getD i 0)=((pL a).getD i 0)))∧(True∧(decide (((pL a).getD i 0)=0))=true))∧True)∧(True∧(IntKind.i64.wrap (((i:Nat):Int)+1))=((i+1:Nat):Int)))∧True),[]⟩):=by kernel_rfl
theorem dTm3 (a b:Nat) (i m:Nat) (j:Nat→Value) (ha:a<2 ^ 128) (hb:b<2 ^ 128) (hm:m=cm a b i) (hi:i≤128) (hlt:i<128) (hb0:a.testBit i=false) {c0:Prop} {ch0:List (Option Value)}:Runs Try.prog (cAt [1,1,0,1,0,0] (bdy Try.f28)) ⟨dTmD_s a b i m j,dTmD_m a b i m,c0,ch0⟩ (fun e s=>e= .normal∧∃(j:Nat→Value) (c:Prop) (ch:List (Option Value)),(m=cm a b (i+1))∧((i+1)≤128)∧s=⟨dTmD_s a b (i+1) m j,dTmD_m a b (i+1) m,c,ch⟩) 0:=by
  have h0:(decide (((i:Nat):Int)<128))=true:=(decide_eq_true (by omega))
  have h1:(decide (((pL a).getD i 0)=0))=true:=(decide_eq_true (by rw[pL_at hlt];unfold bti;rw[hb0];rfl))
  refine(runs_ev mixed _ (dTm3p_0 a b i m j) ⟨⟨⟨⟨⟨⟨⟨⟨⟨trivial,trivial⟩,⟨trivial,h0⟩⟩,trivial⟩,(by(try simp only[Int.toNat_natCast,wA_size]);omega)⟩,⟨(wA_get (by omega) (by omega)),rfl⟩⟩,⟨trivial,h1⟩⟩,trivial⟩,⟨trivial,(by rw[IntKind.wrap_i64];omega)⟩⟩,trivial⟩).mono ?_
  rintro e s ⟨rfl,hs⟩
  refine⟨rfl,fun q=>s.tm.getD q undef,s.c,s.ch,by rw[hm,cm,hb0];exact(Nat.xor_zero _).symm,by omega,?_⟩
  subst hs
  kernel_rfl
abbrev dTmE_s (a b:Nat) (i m:Nat) (j:Nat→Value):List Value:=([j 0,j 1,.pointer (some ⟨0,0,none⟩),.pointer (some ⟨1,0,none⟩),.pointer (some ⟨2,0,none⟩),.pointer (some ⟨3,0,none⟩),.int .i64 ((i:Nat):Int)] ++ (J j 7 81))
abbrev dTmE_m (a b:Nat) (i m:Nat):List Mb:= [((wA .i64 128 (pL a)),(47,(0,0))),((wA .i64 128 (pL b)),(47,(0,0))),((wA .i64 128 []),(47,(0,0))),((wA .i64 255 (pW m)),(63,(0,0)))]
def dTm4p_h (i:Nat):Hn:=if i=9 then⟨13,[],[],[],[]⟩ else⟨0,[],[],[],[]⟩
def dTm4p_b (a b:Nat) (i m:Nat) (j:Nat→Value):List Value:=([j 0,j 1,.pointer (some ⟨0,0,none⟩),.pointer (some ⟨1,0,none⟩),.pointer (some ⟨2,0,none⟩),.pointer (some ⟨3,0,none⟩),.int .i64 ((i:Nat):Int)] ++ (J j 7 4 ++ ([.int .i64 ((i:Nat):Int),.bool true] ++ (J j 13 75))))
theorem dTm4p_0 (a b:Nat) (i m:Nat) (j:Nat→Value):evC (yty.en tabV0) dTm4p_h (cAt [1,1,0,1,0,0,0] (bdy Try.f28)) ⟨dTmD_s a b i m j,dTmD_m a b i m,True,[some (.bool true)]⟩=some (.normal,⟨dTm4p_b a b i m j,[((wA .i64 128 (pL a)),(47,(0,0))),((wA .i64 128 (pL b)),(47,(0,0))),((wA .i64 128 []),(47,(0,0))),((wA .i64 255 (pW m)),(63,(0,0)))],((True∧True)∧(True∧(decide (((i:Nat):Int)<128))=true)),[]⟩):=by kernel_rfl
theorem dTm4 (a b:Nat) (i m:Nat) (j:Nat→Value) (ha:a<2 ^ 128) (hb:b<2 ^ 128) (hm:m=cm a b i) (hi:i≤128) (hlt:i<128) (hb0:¬ a.testBit i=false) {c0:Prop} {ch0:List (Option Value)}:Runs Try.prog (cAt [1,1,0,1,0,0,0] (bdy Try.f28)) ⟨dTmD_s a b i m j,dTmD_m a b i m,c0,ch0⟩ (fun e s=>e= .normal∧∃(j:Nat→Value) (c:Prop) (ch:List (Option Value)),(i<128)∧(¬ a.testBit i=false)∧s=⟨dTmE_s a b i m j,dTmE_m a b i m,c,ch⟩) 0:=by
  have h0:(decide (((i:Nat):Int)<128))=true:=(decide_eq_true (by omega))
  refine(runs_ev mixed _ (dTm4p_0 a b i m j) ⟨⟨trivial,trivial⟩,⟨trivial,h0⟩⟩).mono ?_
  rintro e s ⟨rfl,hs⟩
  refine⟨rfl,fun q=>s.tm.getD q undef,s.c,s.ch,hlt,hb0,?_⟩
  subst hs
  kernel_rfl
def dTm5p_h (i:Nat):Hn:=if i=9 then⟨13,[],[],[],[]⟩ else⟨0,[],[],[],[]⟩
def dTm5p_b (a b:Nat) (i m:Nat) (j:Nat→Value):List Value:=([j 0,j 1,.pointer (some ⟨0,0,none⟩),.pointer (some ⟨1,0,none⟩),.pointer (some ⟨2,0,none⟩),.pointer (some ⟨3,0,none⟩),.int .i64 ((i:Nat):Int)] ++ (J j 7 8 ++ ([.int .i64 ((i:Nat):Int),.pointer (some ⟨0,0+Int.toNat ((i:Nat):Int)*1,none⟩),.int .i64 ((pL a).getD i 0),.bool false] ++ (J j 19 69))))
theorem dTm5p_0 (a b:Nat) (i m:Nat) (j:Nat→Value):evC (yty.en tabV0) dTm5p_h (cAt [1,1,0,1,0,0,1,0,0,0] (bdy Try.f28)) ⟨dTmE_s a b i m j,dTmE_m a b i m,True,[some (.int .i64 ((pL a).getD i 0)),some (.bool false)]⟩=some (.normal,⟨dTm5p_b a b i m j,[((wA .i64 128 (pL a)),(47,(0,0))),((wA .i64 128 (pL b)),(47,(0,0))),((wA .i64 128 []),(47,(0,0))),((wA .i64 255 (pW m)),(63,(0,0)))],((((True∧True)∧(0≤((i:Nat):Int)∧((i:Nat):Int)<((128:Nat):Int)))∧(((wA .i64 128 (pL a))[(0+Int.toNat ((i:Nat):Int)*1)]? =some (.int .i64 ((pL a).getD i 0)))∧((pL a).getD i 0)=((pL a).getD i 0)))∧(True∧(decide (((pL a).getD i 0)=0))=false)),[]⟩):=by kernel_rfl
theorem dTm5 (a b:Nat) (i m:Nat) (j:Nat→Value) (ha:a<2 ^ 128) (hb:b<2 ^ 128) (hm:m=cm a b i) (hi:i≤128) (hi1:i<128) (hb0:¬ a.testBit i=false)  {c0:Prop} {ch0:List (Option Value)}:Runs Try.prog (cAt [1,1,0,1,0,0,1,0,0,0] (bdy Try.f28)) ⟨dTmE_s a b i m j,dTmE_m a b i m,c0,ch0⟩ (fun e s=>e= .normal∧∃(j:Nat→Value) (c:Prop) (ch:List (Option Value)),s=⟨dTmE_s a b i m j,dTmE_m a b i m,c,ch⟩) 0:=by
  have h0:(decide (((pL a).getD i 0)=0))=false:=(decide_eq_false (by rw[pL_at hi1];unfold bti;rw[tb_of hb0];decide))
  refine(runs_ev mixed _ (dTm5p_0 a b i m j) ⟨⟨⟨⟨trivial,trivial⟩,(by(try simp only[Int.toNat_natCast,wA_size]);omega)⟩,⟨(wA_get (by omega) (by omega)),rfl⟩⟩,⟨trivial,h0⟩⟩).mono ?_
  rintro e s ⟨rfl,hs⟩
  refine⟨rfl,fun q=>s.tm.getD q undef,s.c,s.ch,?_⟩
  subst hs
  kernel_rfl
abbrev dTmF_s (a b:Nat) (i m:Nat) (k:Nat) (j:Nat→Value):List Value:=([j 0,j 1,.pointer (some ⟨0,0,none⟩),.pointer (some ⟨1,0,none⟩),.pointer (some ⟨2,0,none⟩),.pointer (some ⟨3,0,none⟩),.int .i64 ((i:Nat):Int),.int .i64 ((k:Nat):Int)] ++ (J j 8 80))
abbrev dTmF_m (a b:Nat) (i m:Nat) (k:Nat):List Mb:= [((wA .i64 128 (pL a)),(47,(0,0))),((wA .i64 128 (pL b)),(47,(0,0))),((wA .i64 128 []),(47,(0,0))),((wA .i64 255 (pW (m ^^^ ((b%2 ^ k) <<< i)))),(63,(0,0)))]
def dTm6p_h (i:Nat):Hn:=if i=9 then⟨13,[],[],[],[]⟩ else⟨0,[],[],[],[]⟩
def dTm6p_b (a b:Nat) (i m:Nat) (j:Nat→Value):List Value:=([j 0,j 1,.pointer (some ⟨0,0,none⟩),.pointer (some ⟨1,0,none⟩),.pointer (some ⟨2,0,none⟩),.pointer (some ⟨3,0,none⟩),.int .i64 ((i:Nat):Int),.int .i64 0] ++ (J j 8 80))
theorem dTm6p_0 (a b:Nat) (i m:Nat) (j:Nat→Value):evC (yty.en tabV0) dTm6p_h (cAt [1,1,0,1,0,0,1,0,0,1,0] (bdy Try.f28)) ⟨dTmE_s a b i m j,dTmE_m a b i m,True,[]⟩=some (.normal,⟨dTm6p_b a b i m j,[((wA .i64 128 (pL a)),(47,(0,0))),((wA .i64 128 (pL b)),(47,(0,0))),((wA .i64 128 []),(47,(0,0))),((wA .i64 255 (pW m)),(63,(0,0)))],(True∧True),[]⟩):=by kernel_rfl
theorem dTm6 (a b:Nat) (i m:Nat) (j:Nat→Value) (ha:a<2 ^ 128) (hb:b<2 ^ 128) (hm:m=cm a b i) (hi:i≤128) (hi1:i<128) (hb0:¬ a.testBit i=false)  {c0:Prop} {ch0:List (Option Value)}:Runs Try.prog (cAt [1,1,0,1,0,0,1,0,0,1,0] (bdy Try.f28)) ⟨dTmE_s a b i m j,dTmE_m a b i m,c0,ch0⟩ (fun e s=>e= .normal∧∃(j:Nat→Value) (c:Prop) (ch:List (Option Value)),(0≤128)∧s=⟨dTmF_s a b i m 0 j,dTmF_m a b i m 0,c,ch⟩) 0:=by
  refine(runs_ev mixed _ (dTm6p_0 a b i m j) ⟨trivial,trivial⟩).mono ?_
  rintro e s ⟨rfl,hs⟩
  refine⟨rfl,fun q=>s.tm.getD q undef,s.c,s.ch,by omega,?_⟩
  subst hs
  rw[show pW m=pW (m ^^^ ((b%2 ^ 0) <<< i)) from by simp[Nat.mod_one]]
  kernel_rfl
def dTm7p_h (i:Nat):Hn:=if i=9 then⟨13,[],[],[],[]⟩ else⟨0,[],[],[],[]⟩
def dTm7p_b (a b:Nat) (i m:Nat) (k:Nat) (j:Nat→Value):List Value:=([j 0,j 1,.pointer (some ⟨0,0,none⟩),.pointer (some ⟨1,0,none⟩),.pointer (some ⟨2,0,none⟩),.pointer (some ⟨3,0,none⟩),.int .i64 ((i:Nat):Int),.int .i64 ((k+1:Nat):Int)] ++ (J j 8 11 ++ ([.int .i64 ((k:Nat):Int),.bool true,.int .i64 ((k:Nat):Int),.int .i64 ((k+1:Nat):Int),.int .i64 ((i:Nat):Int),.int .i64 ((k:Nat):Int),.int .i64 ((i+k:Nat):Int),.int .i64 ((i:Nat):Int),.int .i64 ((k:Nat):Int),.int .i64 ((i+k:Nat):Int),.pointer (some ⟨3,0+Int.toNat ((i+k:Nat):Int)*1,none⟩),.int .i64 ((pW (m ^^^ ((b%2 ^ k) <<< i))).getD (i+k) 0),.int .i64 ((k:Nat):Int),.pointer (some ⟨1,0+Int.toNat ((k:Nat):Int)*1,none⟩),.int .i64 ((pL b).getD k 0),.int .i64 (bits .xor .i64 ((pW (m ^^^ ((b%2 ^ k) <<< i))).getD (i+k) 0) ((pL b).getD k 0)),.pointer (some ⟨3,0+Int.toNat ((i+k:Nat):Int)*1,none⟩)] ++ (J j 36 52))))
theorem dTm7p_0 (a b:Nat) (i m:Nat) (k:Nat) (j:Nat→Value):evC (yty.en tabV0) dTm7p_h (cAt [1,1,0,1,0,0,1,0,0,1,1,0,0] (bdy Try.f28)) ⟨dTmF_s a b i m k j,dTmF_m a b i m k,True,[some (.bool true),some (.int .i64 ((i+k:Nat):Int)),some (.int .i64 ((i+k:Nat):Int)),some (.int .i64 ((pW (m ^^^ ((b%2 ^ k) <<< i))).getD (i+k) 0)),some (.int .i64 ((pL b).getD k 0)),none,some (.agg (wA .i64 255 (pW (m ^^^ ((b%2 ^ (k+1)) <<< i))))),some (.int .i64 ((k+1:Nat):Int))]⟩=some (.normal,⟨dTm7p_b a b i m k j,[((wA .i64 128 (pL a)),(47,(0,0))),((wA .i64 128 (pL b)),(47,(0,0))),((wA .i64 128 []),(47,(0,0))),((wA .i64 255 (pW (m ^^^ ((b%2 ^ (k+1)) <<< i)))),(63,(0,0)))],(((((((((((((((((((True∧True)∧(True∧(decide (((k:Nat):Int)<128))=true))∧True)∧True)∧(True∧(IntKind.i64.wrap (((i:Nat):Int)+((k:Nat):Int)))=((i+k:Nat):Int)))∧True)∧True)∧(True∧(IntKind.i64.wrap (((i:Nat):Int)+((k:Nat):Int)))=((i+k:Nat):Int)))∧(0≤((i+k:Nat):Int)∧((i+k:Nat):Int)<((255:Nat):Int)))∧(((wA .i64 255 (pW (m ^^^ ((b%2 ^ k) <<< i))))[(0+Int.toNat ((i+k:Nat):Int)*1)]? =some (.int .i64 ((pW (m ^^^ ((b%2 ^ k) <<< i))).getD (i+k) 0)))∧((pW (m ^^^ ((b%2 ^ k) <<< i))).getD (i+k) 0)=((pW (m ^^^ ((b%2 ^ k) <<< i))).getD (i+k) 0)))∧True)∧(0≤((k:Nat):Int)∧((k:Nat):Int)<((128:Nat):Int)))∧(((wA .i64 128 (pL b))[(0+Int.toNat ((k:Nat):Int)*1)]? =some (.int .i64 ((pL b).getD k 0)))∧((pL b).getD k 0)=((pL b).getD k 0)))∧True)∧(0≤((i+k:Nat):Int)∧((i+k:Nat):Int)<((255:Nat):Int)))∧((0+Int.toNat ((i+k:Nat):Int)*1)<(wA .i64 255 (pW (m ^^^ ((b%2 ^ k) <<< i)))).size∧(wA .i64 255 (pW (m ^^^ ((b%2 ^ k) <<< i)))).setIfInBounds (0+Int.toNat ((i+k:Nat):Int)*1) (.int .i64 (bits .xor .i64 ((pW (m ^^^ ((b%2 ^ k) <<< i))).getD (i+k) 0) ((pL b).getD k 0)))=(wA .i64 255 (pW (m ^^^ ((b%2 ^ (k+1)) <<< i))))))∧True)∧(True∧(IntKind.i64.wrap (((k:Nat):Int)+1))=((k+1:Nat):Int)))∧True),[]⟩):=by kernel_rfl
theorem dTm7 (a b:Nat) (i m:Nat) (k:Nat) (j:Nat→Value) (ha:a<2 ^ 128) (hb:b<2 ^ 128) (hm:m=cm a b i) (hi:i≤128) (hi1:i<128) (hb0:¬ a.testBit i=false) (hk:k≤128) (hlt:k<128) {c0:Prop} {ch0:List (Option Value)}:Runs Try.prog (cAt [1,1,0,1,0,0,1,0,0,1,1,0,0] (bdy Try.f28)) ⟨dTmF_s a b i m k j,dTmF_m a b i m k,c0,ch0⟩ (fun e s=>e= .normal∧∃(j:Nat→Value) (c:Prop) (ch:List (Option Value)),((k+1)≤128)∧s=⟨dTmF_s a b i m (k+1) j,dTmF_m a b i m (k+1),c,ch⟩) 0:=by
  have h0:(decide (((k:Nat):Int)<128))=true:=(decide_eq_true (by omega))
  refine(runs_ev mixed _ (dTm7p_0 a b i m k j) ⟨⟨⟨⟨⟨⟨⟨⟨⟨⟨⟨⟨⟨⟨⟨⟨⟨⟨⟨trivial,trivial⟩,⟨trivial,h0⟩⟩,trivial⟩,trivial⟩,⟨trivial,(by rw[IntKind.wrap_i64];omega)⟩⟩,trivial⟩,trivial⟩,⟨trivial,(by rw[IntKind.wrap_i64];omega)⟩⟩,(by(try simp only[Int.toNat_natCast,wA_size]);omega)⟩,⟨(wA_get (by omega) (by omega)),rfl⟩⟩,trivial⟩,(by(try simp only[Int.toNat_natCast,wA_size]);omega)⟩,⟨(wA_get (by omega) (by omega)),rfl⟩⟩,trivial⟩,(by(try simp only[Int.toNat_natCast,wA_size]);omega)⟩,pW_put (by omega) (by rw[Int.toNat_natCast];omega) (fun q _=>bt_part m b i k (by rw[pW_at (by omega),pL_at hlt,xbt]) q)⟩,trivial⟩,⟨trivial,(by rw[IntKind.wrap_i64];omega)⟩⟩,trivial⟩).mono ?_
  rintro e s ⟨rfl,hs⟩
  refine⟨rfl,fun q=>s.tm.getD q undef,s.c,s.ch,by omega,?_⟩
  subst hs
  kernel_rfl
abbrev dTmG_s (a b:Nat) (i m:Nat) (k:Nat) (j:Nat→Value):List Value:=([j 0,j 1,.pointer (some ⟨0,0,none⟩),.pointer (some ⟨1,0,none⟩),.pointer (some ⟨2,0,none⟩),.pointer (some ⟨3,0,none⟩),.int .i64 ((i:Nat):Int)] ++ (J j 7 81))
abbrev dTmG_m (a b:Nat) (i m:Nat) (k:Nat):List Mb:= [((wA .i64 128 (pL a)),(47,(0,0))),((wA .i64 128 (pL b)),(47,(0,0))),((wA .i64 128 []),(47,(0,0))),((wA .i64 255 (pW (m ^^^ (b <<< i)))),(63,(0,0)))]
def dTm8p_h (i:Nat):Hn:=if i=9 then⟨13,[],[],[],[]⟩ else⟨0,[],[],[],[]⟩
def dTm8p_b (a b:Nat) (i m:Nat) (k:Nat) (j:Nat→Value):List Value:=([j 0,j 1,.pointer (some ⟨0,0,none⟩),.pointer (some ⟨1,0,none⟩),.pointer (some ⟨2,0,none⟩),.pointer (some ⟨3,0,none⟩),.int .i64 ((i:Nat):Int),.int .i64 ((k:Nat):Int)] ++ (J j 8 11 ++ ([.int .i64 ((k:Nat):Int),.bool false] ++ (J j 21 67))))
theorem dTm8p_0 (a b:Nat) (i m:Nat) (k:Nat) (j:Nat→Value):evC (yty.en tabV0) dTm8p_h (cAt [1,1,0,1,0,0,1,0,0,1,1,0,0] (bdy Try.f28)) ⟨dTmF_s a b i m k j,dTmF_m a b i m k,True,[some (.bool false)]⟩=some ((.exit 2),⟨dTm8p_b a b i m k j,[((wA .i64 128 (pL a)),(47,(0,0))),((wA .i64 128 (pL b)),(47,(0,0))),((wA .i64 128 []),(47,(0,0))),((wA .i64 255 (pW (m ^^^ ((b%2 ^ k) <<< i)))),(63,(0,0)))],((True∧True)∧(True∧(decide (((k:Nat):Int)<128))=false)),[]⟩):=by kernel_rfl
theorem dTm8 (a b:Nat) (i m:Nat) (k:Nat) (j:Nat→Value) (ha:a<2 ^ 128) (hb:b<2 ^ 128) (hm:m=cm a b i) (hi:i≤128) (hi1:i<128) (hb0:¬ a.testBit i=false) (hk:k≤128) (hge:¬ k<128) {c0:Prop} {ch0:List (Option Value)}:Runs Try.prog (cAt [1,1,0,1,0,0,1,0,0,1,1,0,0] (bdy Try.f28)) ⟨dTmF_s a b i m k j,dTmF_m a b i m k,c0,ch0⟩ (fun e s=>e=(.exit 2)∧∃(j:Nat→Value) (c:Prop) (ch:List (Option Value)),s=⟨dTmG_s a b i m k j,dTmG_m a b i m k,c,ch⟩) 0:=by
  have h0:(decide (((k:Nat):Int)<128))=false:=(decide_eq_false (by omega))
  refine(runs_ev mixed _ (dTm8p_0 a b i m k j) ⟨⟨trivial,trivial⟩,⟨trivial,h0⟩⟩).mono ?_
  rintro e s ⟨rfl,hs⟩
  refine⟨rfl,fun q=>s.tm.getD q undef,s.c,s.ch,?_⟩
  subst hs
  rw[show k=128 by omega,Nat.mod_eq_of_lt hb]
  kernel_rfl
theorem dTm9L (a:Nat) (b:Nat) (i:Nat) (m:Nat) (j:Nat→Value) (ha:a<2 ^ 128) (hb:b<2 ^ 128) (hm:m=cm a b i) (hi:i≤128) (hi1:i<128) (hb0:¬ a.testBit i=false) (ihk:0≤128)  {c0:Prop} {ch0:List (Option Value)}:Runs Try.prog (.loop (cAt [1,1,0,1,0,0,1,0,0,1,1,0,0] (bdy Try.f28))) ⟨dTmF_s a b i m 0 j,dTmF_m a b i m 0,c0,ch0⟩ (fun e s=>e= .exit 2∧∃(k:Nat) (j:Nat→Value) (c:Prop) (ch:List (Option Value)),s=⟨dTmG_s a b i m k j,dTmG_m a b i m k,c,ch⟩) 0:=by
  refine runs_loop (fun M s=>∃(k:Nat) (j:Nat→Value) (c:Prop) (ch:List (Option Value)),(k≤128)∧M=128 - k∧s=⟨dTmF_s a b i m k j,dTmF_m a b i m k,c,ch⟩) (128 - 0) ⟨0,j,c0,ch0,ihk,rfl,rfl⟩ ?_
  rintro M s ⟨k,j,c,ch,hk,rfl,rfl⟩
  by_cases hlt:k<128
  · skip
    refine(dTm7 a b i m k j ha hb hm hi hi1 hb0 hk hlt).mono ?_
    rintro e s ⟨rfl,j,c,ch,f6,rfl⟩
    exact .inl ⟨rfl,128 - (k+1),by omega,⟨(k+1),j,c,ch,f6,rfl,rfl⟩⟩
  · refine (dTm8 a b i m k j ha hb hm hi hi1 hb0 hk hlt).mono ?_
    intro e s hh
    obtain⟨rfl,j,c,ch,rfl⟩:=hh
    exact .inr ⟨by simp,rfl,k,j,c,ch,rfl⟩
theorem dTm9 (a:Nat) (b:Nat) (i:Nat) (m:Nat) (j:Nat→Value) (ha:a<2 ^ 128) (hb:b<2 ^ 128) (hm:m=cm a b i) (hi:i≤128) (hi1:i<128) (hb0:¬ a.testBit i=false) (ihk:0≤128)  {c0:Prop} {ch0:List (Option Value)}:Runs Try.prog (cAt [1,1,0,1,0,0,1,0,0,1,1] (bdy Try.f28)) ⟨dTmF_s a b i m 0 j,dTmF_m a b i m 0,c0,ch0⟩ (fun e s=>e= .normal∧∃(k:Nat) (j:Nat→Value) (c:Prop) (ch:List (Option Value)),s=⟨dTmG_s a b i m k j,dTmG_m a b i m k,c,ch⟩) 0:=by
  rw[show(cAt [1,1,0,1,0,0,1,0,0,1,1] (bdy Try.f28))= .block 2 (.loop (cAt [1,1,0,1,0,0,1,0,0,1,1,0,0] (bdy Try.f28))) from by kernel_rfl]
  refine runs_block (dTm9L a b i m j ha hb hm hi hi1 hb0 ihk ) ?_
  rintro e s ⟨rfl,hh⟩
  exact .inl ⟨rfl,rfl,hh⟩
theorem dTm0a (a b:Nat) (i m:Nat) (j:Nat→Value) (ha:a<2 ^ 128) (hb:b<2 ^ 128) (hm:m=cm a b i) (hi:i≤128) (hi1:i<128) (hb0:¬ a.testBit i=false)  {c0:Prop} {ch0:List (Option Value)}:Runs Try.prog (cAt [1,1,0,1,0,0,1,0,0,1] (bdy Try.f28)) ⟨dTmE_s a b i m j,dTmE_m a b i m,c0,ch0⟩ (fun e s=>e= .normal∧∃(k1:Nat) (j:Nat→Value) (c:Prop) (ch:List (Option Value)),s=⟨dTmG_s a b i m k1 j,dTmG_m a b i m k1,c,ch⟩) 0:=by
  rw[show(cAt [1,1,0,1,0,0,1,0,0,1] (bdy Try.f28))=(.seq (cAt [1,1,0,1,0,0,1,0,0,1,0] (bdy Try.f28)) (cAt [1,1,0,1,0,0,1,0,0,1,1] (bdy Try.f28))) from by kernel_rfl]
  refine runs_seq (dTm6 a b i m j ha hb hm hi hi1 hb0 ) (fun s hh=> ?_) (fun e s hne hh=>absurd hh.1 hne)
  obtain⟨_,j,c,ch,f0_6,rfl⟩:=hh
  refine(dTm9 a b i m j ha hb hm hi hi1 hb0 f0_6 ).mono ?_
  rintro e s ⟨rfl,k1,j,c,ch,rfl⟩
  exact⟨rfl,k1,j,c,ch,rfl⟩
theorem dTm0b (a b:Nat) (i m:Nat) (j:Nat→Value) (ha:a<2 ^ 128) (hb:b<2 ^ 128) (hm:m=cm a b i) (hi:i≤128) (hi1:i<128) (hb0:¬ a.testBit i=false)  {c0:Prop} {ch0:List (Option Value)}:Runs Try.prog (cAt [1,1,0,1,0,0,1,0,0] (bdy Try.f28)) ⟨dTmE_s a b i m j,dTmE_m a b i m,c0,ch0⟩ (fun e s=>e= .normal∧∃(k11:Nat) (j:Nat→Value) (c:Prop) (ch:List (Option Value)),s=⟨dTmG_s a b i m k11 j,dTmG_m a b i m k11,c,ch⟩) 0:=by
  rw[show(cAt [1,1,0,1,0,0,1,0,0] (bdy Try.f28))=(.seq (cAt [1,1,0,1,0,0,1,0,0,0] (bdy Try.f28)) (cAt [1,1,0,1,0,0,1,0,0,1] (bdy Try.f28))) from by kernel_rfl]
  refine runs_seq (dTm5 a b i m j ha hb hm hi hi1 hb0 ) (fun s hh=> ?_) (fun e s hne hh=>absurd hh.1 hne)
  obtain⟨_,j,c,ch,rfl⟩:=hh
  refine(dTm0a a b i m j ha hb hm hi hi1 hb0 ).mono ?_
  rintro e s ⟨rfl,k11,j,c,ch,rfl⟩
  exact⟨rfl,k11,j,c,ch,rfl⟩
theorem dTm0c (a b:Nat) (i m:Nat) (j:Nat→Value) (ha:a<2 ^ 128) (hb:b<2 ^ 128) (hm:m=cm a b i) (hi:i≤128) (hi1:i<128) (hb0:¬ a.testBit i=false)  {c0:Prop} {ch0:List (Option Value)}:Runs Try.prog (cAt [1,1,0,1,0,0,1,0] (bdy Try.f28)) ⟨dTmE_s a b i m j,dTmE_m a b i m,c0,ch0⟩ (fun e s=>e= .normal∧∃(k11:Nat) (j:Nat→Value) (c:Prop) (ch:List (Option Value)),s=⟨dTmG_s a b i m k11 j,dTmG_m a b i m k11,c,ch⟩) 0:=by
  rw[show(cAt [1,1,0,1,0,0,1,0] (bdy Try.f28))= .block 1 (cAt [1,1,0,1,0,0,1,0,0] (bdy Try.f28)) from by kernel_rfl]
  refine runs_block (dTm0b a b i m j ha hb hm hi hi1 hb0 ) ?_
  rintro e s ⟨rfl,hh⟩
  exact .inr (.inl ⟨rfl,rfl,hh⟩)
def dTm0dp_h (i:Nat):Hn:=if i=9 then⟨13,[],[],[],[]⟩ else⟨0,[],[],[],[]⟩
def dTm0dp_b (a b:Nat) (i m:Nat) (k:Nat) (j:Nat→Value):List Value:=([j 0,j 1,.pointer (some ⟨0,0,none⟩),.pointer (some ⟨1,0,none⟩),.pointer (some ⟨2,0,none⟩),.pointer (some ⟨3,0,none⟩),.int .i64 ((i+1:Nat):Int)] ++ (J j 7 6 ++ ([.int .i64 ((i:Nat):Int),.int .i64 ((i+1:Nat):Int)] ++ (J j 15 73))))
theorem dTm0dp_0 (a b:Nat) (i m:Nat) (k:Nat) (j:Nat→Value):evC (yty.en tabV0) dTm0dp_h (cAt [1,1,0,1,0,0,1,1] (bdy Try.f28)) ⟨dTmG_s a b i m k j,dTmG_m a b i m k,True,[some (.int .i64 ((i+1:Nat):Int))]⟩=some (.normal,⟨dTm0dp_b a b i m k j,[((wA .i64 128 (pL a)),(47,(0,0))),((wA .i64 128 (pL b)),(47,(0,0))),((wA .i64 128 []),(47,(0,0))),((wA .i64 255 (pW (m ^^^ (b <<< i)))),(63,(0,0)))],(((True∧True)∧(True∧(IntKind.i64.wrap (((i:Nat):Int)+1))=((i+1:Nat):Int)))∧True),[]⟩):=by kernel_rfl
theorem dTm0d (a b:Nat) (i m:Nat) (k:Nat) (j:Nat→Value) (ha:a<2 ^ 128) (hb:b<2 ^ 128) (hm:m=cm a b i) (hi:i≤128) (hi1:i<128) (hb0:¬ a.testBit i=false)  {c0:Prop} {ch0:List (Option Value)}:Runs Try.prog (cAt [1,1,0,1,0,0,1,1] (bdy Try.f28)) ⟨dTmG_s a b i m k j,dTmG_m a b i m k,c0,ch0⟩ (fun e s=>e= .normal∧∃(j:Nat→Value) (c:Prop) (ch:List (Option Value)),((m ^^^ (b <<< i))=cm a b (i+1))∧((i+1)≤128)∧s=⟨dTmD_s a b (i+1) (m ^^^ (b <<< i)) j,dTmD_m a b (i+1) (m ^^^ (b <<< i)),c,ch⟩) 0:=by
  refine(runs_ev mixed _ (dTm0dp_0 a b i m k j) ⟨⟨⟨trivial,trivial⟩,⟨trivial,(by rw[IntKind.wrap_i64];omega)⟩⟩,trivial⟩).mono ?_
  rintro e s ⟨rfl,hs⟩
  refine⟨rfl,fun q=>s.tm.getD q undef,s.c,s.ch,by rw[hm,cm,tb_of hb0];rfl,by omega,?_⟩
  subst hs
  kernel_rfl
theorem dTm0e (a b:Nat) (i m:Nat) (j:Nat→Value) (ha:a<2 ^ 128) (hb:b<2 ^ 128) (hm:m=cm a b i) (hi:i≤128) (hi1:i<128) (hb0:¬ a.testBit i=false)  {c0:Prop} {ch0:List (Option Value)}:Runs Try.prog (cAt [1,1,0,1,0,0,1] (bdy Try.f28)) ⟨dTmE_s a b i m j,dTmE_m a b i m,c0,ch0⟩ (fun e s=>e= .normal∧∃(k110:Nat) (j:Nat→Value) (c:Prop) (ch:List (Option Value)),((m ^^^ (b <<< i))=cm a b (i+1))∧((i+1)≤128)∧s=⟨dTmD_s a b (i+1) (m ^^^ (b <<< i)) j,dTmD_m a b (i+1) (m ^^^ (b <<< i)),c,ch⟩) 0:=by
  rw[show(cAt [1,1,0,1,0,0,1] (bdy Try.f28))=(.seq (cAt [1,1,0,1,0,0,1,0] (bdy Try.f28)) (cAt [1,1,0,1,0,0,1,1] (bdy Try.f28))) from by kernel_rfl]
  refine runs_seq (dTm0c a b i m j ha hb hm hi hi1 hb0 ) (fun s hh=> ?_) (fun e s hne hh=>absurd hh.1 hne)
  obtain⟨_,k110,j,c,ch,rfl⟩:=hh
  refine(dTm0d a b i m k110 j ha hb hm hi hi1 hb0 ).mono ?_
  rintro e s ⟨rfl,j,c,ch,f1_2,f1_3,rfl⟩
  exact⟨rfl,k110,j,c,ch,f1_2,f1_3,rfl⟩
theorem dTm0f (a b:Nat) (i m:Nat) (j:Nat→Value) (ha:a<2 ^ 128) (hb:b<2 ^ 128) (hm:m=cm a b i) (hi:i≤128) (hlt:i<128) (hb0:¬ a.testBit i=false) {c0:Prop} {ch0:List (Option Value)}:Runs Try.prog (cAt [1,1,0,1,0,0] (bdy Try.f28)) ⟨dTmD_s a b i m j,dTmD_m a b i m,c0,ch0⟩ (fun e s=>e= .normal∧∃(k1101:Nat) (j:Nat→Value) (c:Prop) (ch:List (Option Value)),((m ^^^ (b <<< i))=cm a b (i+1))∧((i+1)≤128)∧s=⟨dTmD_s a b (i+1) (m ^^^ (b <<< i)) j,dTmD_m a b (i+1) (m ^^^ (b <<< i)),c,ch⟩) 0:=by
  rw[show(cAt [1,1,0,1,0,0] (bdy Try.f28))=(.seq (cAt [1,1,0,1,0,0,0] (bdy Try.f28)) (cAt [1,1,0,1,0,0,1] (bdy Try.f28))) from by kernel_rfl]
  refine runs_seq (dTm4 a b i m j ha hb hm hi hlt hb0) (fun s hh=> ?_) (fun e s hne hh=>absurd hh.1 hne)
  obtain⟨_,j,c,ch,f0_4,f0_5,rfl⟩:=hh
  refine(dTm0e a b i m j ha hb hm hi f0_4 f0_5 ).mono ?_
  rintro e s ⟨rfl,k1101,j,c,ch,f1_2,f1_3,rfl⟩
  exact⟨rfl,k1101,j,c,ch,f1_2,f1_3,rfl⟩
theorem dTm0g (a b:Nat) (i m:Nat) (j:Nat→Value) (ha:a<2 ^ 128) (hb:b<2 ^ 128) (hm:m=cm a b i) (hi:i≤128) (hlt:i<128) {c0:Prop} {ch0:List (Option Value)}:Runs Try.prog (cAt [1,1,0,1,0,0] (bdy Try.f28)) ⟨dTmD_s a b i m j,dTmD_m a b i m,c0,ch0⟩ (fun e s=>e= .normal∧∃(m2:Nat) (j:Nat→Value) (c:Prop) (ch:List (Option Value)),(m2=cm a b (i+1))∧((i+1)≤128)∧s=⟨dTmD_s a b (i+1) m2 j,dTmD_m a b (i+1) m2,c,ch⟩) 0:=by
  by_cases hb0:a.testBit i=false
  · refine (dTm3 a b i m j ha hb hm hi hlt hb0).mono ?_
    rintro e s ⟨rfl,j,c,ch,f2,f3,rfl⟩
    exact⟨rfl,m,j,c,ch,f2,f3,rfl⟩
  · refine (dTm0f a b i m j ha hb hm hi hlt hb0).mono ?_
    rintro e s ⟨rfl,k1101,j,c,ch,f2,f3,rfl⟩
    exact⟨rfl,(m ^^^ (b <<< i)),j,c,ch,f2,f3,rfl⟩
abbrev dTmH_s (a b:Nat) (i m:Nat) (j:Nat→Value):List Value:=([j 0,j 1,.pointer (some ⟨0,0,none⟩),.pointer (some ⟨1,0,none⟩),.pointer (some ⟨2,0,none⟩),.pointer (some ⟨3,0,none⟩)] ++ (J j 6 82))
abbrev dTmH_m (a b:Nat) (i m:Nat):List Mb:= [((wA .i64 128 (pL a)),(47,(0,0))),((wA .i64 128 (pL b)),(47,(0,0))),((wA .i64 128 []),(47,(0,0))),((wA .i64 255 (pW m)),(63,(0,0)))]
def dTm0hp_h (i:Nat):Hn:=if i=9 then⟨13,[],[],[],[]⟩ else⟨0,[],[],[],[]⟩
def dTm0hp_b (a b:Nat) (i m:Nat) (j:Nat→Value):List Value:=([j 0,j 1,.pointer (some ⟨0,0,none⟩),.pointer (some ⟨1,0,none⟩),.pointer (some ⟨2,0,none⟩),.pointer (some ⟨3,0,none⟩),.int .i64 ((i:Nat):Int)] ++ (J j 7 4 ++ ([.int .i64 ((i:Nat):Int),.bool false] ++ (J j 13 75))))
theorem dTm0hp_0 (a b:Nat) (i m:Nat) (j:Nat→Value):evC (yty.en tabV0) dTm0hp_h (cAt [1,1,0,1,0,0] (bdy Try.f28)) ⟨dTmD_s a b i m j,dTmD_m a b i m,True,[some (.bool false)]⟩=some ((.exit 0),⟨dTm0hp_b a b i m j,[((wA .i64 128 (pL a)),(47,(0,0))),((wA .i64 128 (pL b)),(47,(0,0))),((wA .i64 128 []),(47,(0,0))),((wA .i64 255 (pW m)),(63,(0,0)))],((True∧True)∧(True∧(decide (((i:Nat):Int)<128))=false)),[]⟩):=by kernel_rfl
theorem dTm0h (a b:Nat) (i m:Nat) (j:Nat→Value) (ha:a<2 ^ 128) (hb:b<2 ^ 128) (hm:m=cm a b i) (hi:i≤128) (hge:¬ i<128) {c0:Prop} {ch0:List (Option Value)}:Runs Try.prog (cAt [1,1,0,1,0,0] (bdy Try.f28)) ⟨dTmD_s a b i m j,dTmD_m a b i m,c0,ch0⟩ (fun e s=>e=(.exit 0)∧∃(j:Nat→Value) (c:Prop) (ch:List (Option Value)),(m=cm a b 128)∧s=⟨dTmH_s a b i m j,dTmH_m a b i m,c,ch⟩) 0:=by
  have h0:(decide (((i:Nat):Int)<128))=false:=(decide_eq_false (by omega))
  refine(runs_ev mixed _ (dTm0hp_0 a b i m j) ⟨⟨trivial,trivial⟩,⟨trivial,h0⟩⟩).mono ?_
  rintro e s ⟨rfl,hs⟩
  refine⟨rfl,fun q=>s.tm.getD q undef,s.c,s.ch,by rw[hm,show i=128 by omega],?_⟩
  subst hs
  kernel_rfl
theorem dTm0iL (a:Nat) (b:Nat) (j:Nat→Value) (ha:a<2 ^ 128) (hb:b<2 ^ 128) (ihm:0=cm a b 0) (ihi:0≤128)  {c0:Prop} {ch0:List (Option Value)}:Runs Try.prog (.loop (cAt [1,1,0,1,0,0] (bdy Try.f28))) ⟨dTmD_s a b 0 0 j,dTmD_m a b 0 0,c0,ch0⟩ (fun e s=>e= .exit 0∧∃(i:Nat) (m:Nat) (j:Nat→Value) (c:Prop) (ch:List (Option Value)),(m=cm a b 128)∧s=⟨dTmH_s a b i m j,dTmH_m a b i m,c,ch⟩) 0:=by
  refine runs_loop (fun M s=>∃(i:Nat) (m:Nat) (j:Nat→Value) (c:Prop) (ch:List (Option Value)),(m=cm a b i)∧(i≤128)∧M=128 - i∧s=⟨dTmD_s a b i m j,dTmD_m a b i m,c,ch⟩) (128 - 0) ⟨0,0,j,c0,ch0,ihm,ihi,rfl,rfl⟩ ?_
  rintro M s ⟨i,m,j,c,ch,hm,hi,rfl,rfl⟩
  by_cases hlt:i<128
  · skip
    refine(dTm0g a b i m j ha hb hm hi hlt).mono ?_
    rintro e s ⟨rfl,m2_,j,c,ch,f2,f3,rfl⟩
    exact .inl ⟨rfl,128 - (i+1),by omega,⟨(i+1),m2_,j,c,ch,f2,f3,rfl,rfl⟩⟩
  · refine (dTm0h a b i m j ha hb hm hi hlt).mono ?_
    intro e s hh
    obtain⟨rfl,j,c,ch,f2,rfl⟩:=hh
    exact .inr ⟨by simp,rfl,i,m,j,c,ch,f2,rfl⟩
theorem dTm0i (a:Nat) (b:Nat) (j:Nat→Value) (ha:a<2 ^ 128) (hb:b<2 ^ 128) (ihm:0=cm a b 0) (ihi:0≤128)  {c0:Prop} {ch0:List (Option Value)}:Runs Try.prog (cAt [1,1,0,1] (bdy Try.f28)) ⟨dTmD_s a b 0 0 j,dTmD_m a b 0 0,c0,ch0⟩ (fun e s=>e= .normal∧∃(i:Nat) (m:Nat) (j:Nat→Value) (c:Prop) (ch:List (Option Value)),(m=cm a b 128)∧s=⟨dTmH_s a b i m j,dTmH_m a b i m,c,ch⟩) 0:=by
  rw[show(cAt [1,1,0,1] (bdy Try.f28))= .block 0 (.loop (cAt [1,1,0,1,0,0] (bdy Try.f28))) from by kernel_rfl]
  refine runs_block (dTm0iL a b j ha hb ihm ihi ) ?_
  rintro e s ⟨rfl,hh⟩
  exact .inl ⟨rfl,rfl,hh⟩
theorem dTm0j (a b:Nat) (j:Nat→Value) (ha:a<2 ^ 128) (hb:b<2 ^ 128)  {c0:Prop} {ch0:List (Option Value)}:Runs Try.prog (cAt [1,1,0] (bdy Try.f28)) ⟨dTmC_s a b j,dTmC_m a b,c0,ch0⟩ (fun e s=>e= .normal∧∃(i1:Nat) (m1:Nat) (j:Nat→Value) (c:Prop) (ch:List (Option Value)),(m1=cm a b 128)∧s=⟨dTmH_s a b i1 m1 j,dTmH_m a b i1 m1,c,ch⟩) 0:=by
  rw[show(cAt [1,1,0] (bdy Try.f28))=(.seq (cAt [1,1,0,0] (bdy Try.f28)) (cAt [1,1,0,1] (bdy Try.f28))) from by kernel_rfl]
  refine runs_seq (dTm2 a b j ha hb ) (fun s hh=> ?_) (fun e s hne hh=>absurd hh.1 hne)
  obtain⟨_,j,c,ch,f0_2,f0_3,rfl⟩:=hh
  refine(dTm0i a b j ha hb f0_2 f0_3 ).mono ?_
  rintro e s ⟨rfl,i1,m1,j,c,ch,f1_2,rfl⟩
  exact⟨rfl,i1,m1,j,c,ch,f1_2,rfl⟩
abbrev dTmI_s (a b:Nat) (d m:Nat) (j:Nat→Value):List Value:=([j 0,j 1,.pointer (some ⟨0,0,none⟩),.pointer (some ⟨1,0,none⟩),.pointer (some ⟨2,0,none⟩),.pointer (some ⟨3,0,none⟩),j 6,j 7,.int .i64 ((254 - d:Nat):Int)] ++ (J j 9 79))
abbrev dTmI_m (a b:Nat) (d m:Nat):List Mb:= [((wA .i64 128 (pL a)),(47,(0,0))),((wA .i64 128 (pL b)),(47,(0,0))),((wA .i64 128 []),(47,(0,0))),((wA .i64 255 (pW m)),(63,(0,0)))]
def dTm0kp_h (i:Nat):Hn:=if i=9 then⟨13,[],[],[],[]⟩ else⟨0,[],[],[],[]⟩
def dTm0kp_b (a b:Nat) (i m:Nat) (j:Nat→Value):List Value:=([j 0,j 1,.pointer (some ⟨0,0,none⟩),.pointer (some ⟨1,0,none⟩),.pointer (some ⟨2,0,none⟩),.pointer (some ⟨3,0,none⟩),j 6,j 7,.int .i64 254] ++ (J j 9 79))
theorem dTm0kp_0 (a b:Nat) (i m:Nat) (j:Nat→Value):evC (yty.en tabV0) dTm0kp_h (cAt [1,1,1,0,0] (bdy Try.f28)) ⟨dTmH_s a b i m j,dTmH_m a b i m,True,[]⟩=some (.normal,⟨dTm0kp_b a b i m j,[((wA .i64 128 (pL a)),(47,(0,0))),((wA .i64 128 (pL b)),(47,(0,0))),((wA .i64 128 []),(47,(0,0))),((wA .i64 255 (pW m)),(63,(0,0)))],(True∧True),[]⟩):=by kernel_rfl
theorem dTm0k (a b:Nat) (i m:Nat) (j:Nat→Value) (ha:a<2 ^ 128) (hb:b<2 ^ 128) (hm:m=cm a b 128)  {c0:Prop} {ch0:List (Option Value)}:Runs Try.prog (cAt [1,1,1,0,0] (bdy Try.f28)) ⟨dTmH_s a b i m j,dTmH_m a b i m,c0,ch0⟩ (fun e s=>e= .normal∧∃(j:Nat→Value) (c:Prop) (ch:List (Option Value)),(m=rd (cm a b 128) 0)∧(0≤127)∧s=⟨dTmI_s a b 0 m j,dTmI_m a b 0 m,c,ch⟩) 0:=by
  refine(runs_ev mixed _ (dTm0kp_0 a b i m j) ⟨trivial,trivial⟩).mono ?_
  rintro e s ⟨rfl,hs⟩
  refine⟨rfl,fun q=>s.tm.getD q undef,s.c,s.ch,hm,by omega,?_⟩
  subst hs
  kernel_rfl
def dTm0lp_h (i:Nat):Hn:=if i=9 then⟨13,[],[],[],[]⟩ else⟨0,[],[],[],[]⟩
def dTm0lp_b (a b:Nat) (d m:Nat) (j:Nat→Value):List Value:=([j 0,j 1,.pointer (some ⟨0,0,none⟩),.pointer (some ⟨1,0,none⟩),.pointer (some ⟨2,0,none⟩),.pointer (some ⟨3,0,none⟩),j 6,j 7,.int .i64 ((254 - d - 1:Nat):Int)] ++ (J j 9 27 ++ ([.int .i64 ((254 - d:Nat):Int),.bool true,.int .i64 ((254 - d:Nat):Int),.int .i64 ((254 - d - 1:Nat):Int),.int .i64 ((254 - d:Nat):Int),.pointer (some ⟨3,0+Int.toNat ((254 - d:Nat):Int)*1,none⟩),.int .i64 ((pW m).getD (254 - d) 0),.bool false] ++ (J j 44 44))))
theorem dTm0lp_0 (a b:Nat) (d m:Nat) (j:Nat→Value):evC (yty.en tabV0) dTm0lp_h (cAt [1,1,1,0,1,0,0] (bdy Try.f28)) ⟨dTmI_s a b d m j,dTmI_m a b d m,True,[some (.bool true),some (.int .i64 ((pW m).getD (254 - d) 0)),some (.bool false),some (.int .i64 ((254 - d - 1:Nat):Int))]⟩=some (.normal,⟨dTm0lp_b a b d m j,[((wA .i64 128 (pL a)),(47,(0,0))),((wA .i64 128 (pL b)),(47,(0,0))),((wA .i64 128 []),(47,(0,0))),((wA .i64 255 (pW m)),(63,(0,0)))],(((((((((True∧True)∧(True∧(decide (128≤((254 - d:Nat):Int)))=true))∧True)∧(0≤((254 - d:Nat):Int)∧((254 - d:Nat):Int)<((255:Nat):Int)))∧(((wA .i64 255 (pW m))[(0+Int.toNat ((254 - d:Nat):Int)*1)]? =some (.int .i64 ((pW m).getD (254 - d) 0)))∧((pW m).getD (254 - d) 0)=((pW m).getD (254 - d) 0)))∧(True∧(decide (((pW m).getD (254 - d) 0)=1))=false))∧True)∧(True∧(IntKind.i64.wrap (((254 - d:Nat):Int) - 1))=((254 - d - 1:Nat):Int)))∧True),[]⟩):=by kernel_rfl
theorem dTm0l (a b:Nat) (d m:Nat) (j:Nat→Value) (ha:a<2 ^ 128) (hb:b<2 ^ 128) (hm:m=rd (cm a b 128) d) (hd:d≤127) (hlt:d<127) (hb0:m.testBit (254 - d)=false) {c0:Prop} {ch0:List (Option Value)}:Runs Try.prog (cAt [1,1,1,0,1,0,0] (bdy Try.f28)) ⟨dTmI_s a b d m j,dTmI_m a b d m,c0,ch0⟩ (fun e s=>e= .normal∧∃(j:Nat→Value) (c:Prop) (ch:List (Option Value)),(m=rd (cm a b 128) (d+1))∧((d+1)≤127)∧s=⟨dTmI_s a b (d+1) m j,dTmI_m a b (d+1) m,c,ch⟩) 0:=by
  have h0:(decide (128≤((254 - d:Nat):Int)))=true:=(decide_eq_true (by omega))
  have h1:(decide (((pW m).getD (254 - d) 0)=1))=false:=(decide_eq_false (by rw[pW_at (by omega)];unfold bti;rw[hb0];decide))
  refine(runs_ev mixed _ (dTm0lp_0 a b d m j) ⟨⟨⟨⟨⟨⟨⟨⟨⟨trivial,trivial⟩,⟨trivial,h0⟩⟩,trivial⟩,(by(try simp only[Int.toNat_natCast,wA_size]);omega)⟩,⟨(wA_get (by omega) (by omega)),rfl⟩⟩,⟨trivial,h1⟩⟩,trivial⟩,⟨trivial,(by rw[IntKind.wrap_i64];omega)⟩⟩,trivial⟩).mono ?_
  rintro e s ⟨rfl,hs⟩
  refine⟨rfl,fun q=>s.tm.getD q undef,s.c,s.ch,by rw[rd,← hm,hb0];exact(Nat.xor_zero _).symm,by omega,?_⟩
  subst hs
  kernel_rfl
def dTm0mp_h (i:Nat):Hn:=if i=9 then⟨13,[],[],[],[]⟩ else⟨0,[],[],[],[]⟩
def dTm0mp_b (a b:Nat) (d m:Nat) (j:Nat→Value):List Value:=([j 0,j 1,.pointer (some ⟨0,0,none⟩),.pointer (some ⟨1,0,none⟩),.pointer (some ⟨2,0,none⟩),.pointer (some ⟨3,0,none⟩),j 6,j 7,.int .i64 ((254 - d - 1:Nat):Int)] ++ (J j 9 27 ++ ([.int .i64 ((254 - d:Nat):Int),.bool true,.int .i64 ((254 - d:Nat):Int),.int .i64 ((254 - d - 1:Nat):Int),.int .i64 ((254 - d:Nat):Int),.pointer (some ⟨3,0+Int.toNat ((254 - d:Nat):Int)*1,none⟩),.int .i64 ((pW m).getD (254 - d) 0),.bool true,.int .i64 ((254 - d:Nat):Int),.pointer (some ⟨3,0+Int.toNat ((254 - d:Nat):Int)*1,none⟩),.int .i64 ((254 - d:Nat):Int),.int .i64 ((254 - d - 1:Nat):Int),.int .i64 ((254 - d:Nat):Int),.int .i64 ((254 - d - 1:Nat):Int),.pointer (some ⟨3,0+Int.toNat ((254 - d - 1:Nat):Int)*1,none⟩),.int .i64 ((pW (m ^^^ 2 ^ (254 - d))).getD (254 - d - 1) 0),.int .i64 (bits .xor .i64 ((pW (m ^^^ 2 ^ (254 - d))).getD (254 - d - 1) 0) 1),.pointer (some ⟨3,0+Int.toNat ((254 - d - 1:Nat):Int)*1,none⟩),.int .i64 ((254 - d:Nat):Int),.int .i64 ((254 - d - 2:Nat):Int),.int .i64 ((254 - d:Nat):Int),.int .i64 ((254 - d - 2:Nat):Int),.pointer (some ⟨3,0+Int.toNat ((254 - d - 2:Nat):Int)*1,none⟩),.int .i64 ((pW ((m ^^^ 2 ^ (254 - d)) ^^^ 2 ^ (254 - d - 1))).getD (254 - d - 2) 0),.int .i64 (bits .xor .i64 ((pW ((m ^^^ 2 ^ (254 - d)) ^^^ 2 ^ (254 - d - 1))).getD (254 - d - 2) 0) 1),.pointer (some ⟨3,0+Int.toNat ((254 - d - 2:Nat):Int)*1,none⟩),.int .i64 ((254 - d:Nat):Int),.int .i64 ((254 - d - 7:Nat):Int),.int .i64 ((254 - d:Nat):Int),.int .i64 ((254 - d - 7:Nat):Int),.pointer (some ⟨3,0+Int.toNat ((254 - d - 7:Nat):Int)*1,none⟩),.int .i64 ((pW (((m ^^^ 2 ^ (254 - d)) ^^^ 2 ^ (254 - d - 1)) ^^^ 2 ^ (254 - d - 2))).getD (254 - d - 7) 0),.int .i64 (bits .xor .i64 ((pW (((m ^^^ 2 ^ (254 - d)) ^^^ 2 ^ (254 - d - 1)) ^^^ 2 ^ (254 - d - 2))).getD (254 - d - 7) 0) 1),.pointer (some ⟨3,0+Int.toNat ((254 - d - 7:Nat):Int)*1,none⟩),.int .i64 ((254 - d:Nat):Int),.int .i64 ((254 - d - 128:Nat):Int),.int .i64 ((254 - d:Nat):Int),.int .i64 ((254 - d - 128:Nat):Int),.pointer (some ⟨3,0+Int.toNat ((254 - d - 128:Nat):Int)*1,none⟩),.int .i64 ((pW ((((m ^^^ 2 ^ (254 - d)) ^^^ 2 ^ (254 - d - 1)) ^^^ 2 ^ (254 - d - 2)) ^^^ 2 ^ (254 - d - 7))).getD (254 - d - 128) 0),.int .i64 (bits .xor .i64 ((pW ((((m ^^^ 2 ^ (254 - d)) ^^^ 2 ^ (254 - d - 1)) ^^^ 2 ^ (254 - d - 2)) ^^^ 2 ^ (254 - d - 7))).getD (254 - d - 128) 0) 1),.pointer (some ⟨3,0+Int.toNat ((254 - d - 128:Nat):Int)*1,none⟩)] ++ (J j 78 10))))
theorem dTm0mp_0 (a b:Nat) (d m:Nat) (j:Nat→Value):evC (yty.en tabV0) dTm0mp_h (cAt [1,1,1,0,1,0,0] (bdy Try.f28)) ⟨dTmI_s a b d m j,dTmI_m a b d m,True,[some (.bool true),some (.int .i64 ((pW m).getD (254 - d) 0)),some (.bool true),some (.agg (wA .i64 255 (pW (m ^^^ 2 ^ (254 - d))))),some (.int .i64 ((254 - d - 1:Nat):Int)),some (.int .i64 ((254 - d - 1:Nat):Int)),some (.int .i64 ((pW (m ^^^ 2 ^ (254 - d))).getD (254 - d - 1) 0)),none,some (.agg (wA .i64 255 (pW ((m ^^^ 2 ^ (254 - d)) ^^^ 2 ^ (254 - d - 1))))),some (.int .i64 ((254 - d - 2:Nat):Int)),some (.int .i64 ((254 - d - 2:Nat):Int)),some (.int .i64 ((pW ((m ^^^ 2 ^ (254 - d)) ^^^ 2 ^ (254 - d - 1))).getD (254 - d - 2) 0)),none,some (.agg (wA .i64 255 (pW (((m ^^^ 2 ^ (254 - d)) ^^^ 2 ^ (254 - d - 1)) ^^^ 2 ^ (254 - d - 2))))),some (.int .i64 ((254 - d - 7:Nat):Int)),some (.int .i64 ((254 - d - 7:Nat):Int)),some (.int .i64 ((pW (((m ^^^ 2 ^ (254 - d)) ^^^ 2 ^ (254 - d - 1)) ^^^ 2 ^ (254 - d - 2))).getD (254 - d - 7) 0)),none,some (.agg (wA .i64 255 (pW ((((m ^^^ 2 ^ (254 - d)) ^^^ 2 ^ (254 - d - 1)) ^^^ 2 ^ (254 - d - 2)) ^^^ 2 ^ (254 - d - 7))))),some (.int .i64 ((254 - d - 128:Nat):Int)),some (.int .i64 ((254 - d - 128:Nat):Int)),some (.int .i64 ((pW ((((m ^^^ 2 ^ (254 - d)) ^^^ 2 ^ (254 - d - 1)) ^^^ 2 ^ (254 - d - 2)) ^^^ 2 ^ (254 - d - 7))).getD (254 - d - 128) 0)),none,some (.agg (wA .i64 255 (pW (((((m ^^^ 2 ^ (254 - d)) ^^^ 2 ^ (254 - d - 1)) ^^^ 2 ^ (254 - d - 2)) ^^^ 2 ^ (254 - d - 7)) ^^^ 2 ^ (254 - d - 128))))),some (.int .i64 ((254 - d - 1:Nat):Int))]⟩=some (.normal,⟨dTm0mp_b a b d m j,[((wA .i64 128 (pL a)),(47,(0,0))),((wA .i64 128 (pL b)),(47,(0,0))),((wA .i64 128 []),(47,(0,0))),((wA .i64 255 (pW (((((m ^^^ 2 ^ (254 - d)) ^^^ 2 ^ (254 - d - 1)) ^^^ 2 ^ (254 - d - 2)) ^^^ 2 ^ (254 - d - 7)) ^^^ 2 ^ (254 - d - 128)))),(63,(0,0)))],((((((((((((((((((((((((((((((((((((((((((((((((True∧True)∧(True∧(decide (128≤((254 - d:Nat):Int)))=true))∧True)∧(0≤((254 - d:Nat):Int)∧((254 - d:Nat):Int)<((255:Nat):Int)))∧(((wA .i64 255 (pW m))[(0+Int.toNat ((254 - d:Nat):Int)*1)]? =some (.int .i64 ((pW m).getD (254 - d) 0)))∧((pW m).getD (254 - d) 0)=((pW m).getD (254 - d) 0)))∧(True∧(decide (((pW m).getD (254 - d) 0)=1))=true))∧True)∧(0≤((254 - d:Nat):Int)∧((254 - d:Nat):Int)<((255:Nat):Int)))∧((0+Int.toNat ((254 - d:Nat):Int)*1)<(wA .i64 255 (pW m)).size∧(wA .i64 255 (pW m)).setIfInBounds (0+Int.toNat ((254 - d:Nat):Int)*1) (.int .i64 0)=(wA .i64 255 (pW (m ^^^ 2 ^ (254 - d))))))∧True)∧(True∧(IntKind.i64.wrap (((254 - d:Nat):Int) - 1))=((254 - d - 1:Nat):Int)))∧True)∧(True∧(IntKind.i64.wrap (((254 - d:Nat):Int) - 1))=((254 - d - 1:Nat):Int)))∧(0≤((254 - d - 1:Nat):Int)∧((254 - d - 1:Nat):Int)<((255:Nat):Int)))∧(((wA .i64 255 (pW (m ^^^ 2 ^ (254 - d))))[(0+Int.toNat ((254 - d - 1:Nat):Int)*1)]? =some (.int .i64 ((pW (m ^^^ 2 ^ (254 - d))).getD (254 - d - 1) 0)))∧((pW (m ^^^ 2 ^ (254 - d))).getD (254 - d - 1) 0)=((pW (m ^^^ 2 ^ (254 - d))).getD (254 - d - 1) 0)))∧True)∧(0≤((254 - d - 1:Nat):Int)∧((254 - d - 1:Nat):Int)<((255:Nat):Int)))∧((0+Int.toNat ((254 - d - 1:Nat):Int)*1)<(wA .i64 255 (pW (m ^^^ 2 ^ (254 - d)))).size∧(wA .i64 255 (pW (m ^^^ 2 ^ (254 - d)))).setIfInBounds (0+Int.toNat ((254 - d - 1:Nat):Int)*1) (.int .i64 (bits .xor .i64 ((pW (m ^^^ 2 ^ (254 - d))).getD (254 - d - 1) 0) 1))=(wA .i64 255 (pW ((m ^^^ 2 ^ (254 - d)) ^^^ 2 ^ (254 - d - 1))))))∧True)∧(True∧(IntKind.i64.wrap (((254 - d:Nat):Int) - 2))=((254 - d - 2:Nat):Int)))∧True)∧(True∧(IntKind.i64.wrap (((254 - d:Nat):Int) - 2))=((254 - d - 2:Nat):Int)))∧(0≤((254 - d - 2:Nat):Int)∧((254 - d - 2:Nat):Int)<((255:Nat):Int)))∧(((wA .i64 255 (pW ((m ^^^ 2 ^ (254 - d)) ^^^ 2 ^ (254 - d - 1))))[(0+Int.toNat ((254 - d - 2:Nat):Int)*1)]? =some (.int .i64 ((pW ((m ^^^ 2 ^ (254 - d)) ^^^ 2 ^ (254 - d - 1))).getD (254 - d - 2) 0)))∧((pW ((m ^^^ 2 ^ (254 - d)) ^^^ 2 ^ (254 - d - 1))).getD (254 - d - 2) 0)=((pW ((m ^^^ 2 ^ (254 - d)) ^^^ 2 ^ (254 - d - 1))).getD (254 - d - 2) 0)))∧True)∧(0≤((254 - d - 2:Nat):Int)∧((254 - d - 2:Nat):Int)<((255:Nat):Int)))∧((0+Int.toNat ((254 - d - 2:Nat):Int)*1)<(wA .i64 255 (pW ((m ^^^ 2 ^ (254 - d)) ^^^ 2 ^ (254 - d - 1)))).size∧(wA .i64 255 (pW ((m ^^^ 2 ^ (254 - d)) ^^^ 2 ^ (254 - d - 1)))).setIfInBounds (0+Int.toNat ((254 - d - 2:Nat):Int)*1) (.int .i64 (bits .xor .i64 ((pW ((m ^^^ 2 ^ (254 - d)) ^^^ 2 ^ (254 - d - 1))).getD (254 - d - 2) 0) 1))=(wA .i64 255 (pW (((m ^^^ 2 ^ (254 - d)) ^^^ 2 ^ (254 - d - 1)) ^^^ 2 ^ (254 - d - 2))))))∧True)∧(True∧(IntKind.i64.wrap (((254 - d:Nat):Int) - 7))=((254 - d - 7:Nat):Int)))∧True)∧(True∧(IntKind.i64.wrap (((254 - d:Nat):Int) - 7))=((254 - d - 7:Nat):Int)))∧(0≤((254 - d - 7:Nat):Int)∧((254 - d - 7:Nat):Int)<((255:Nat):Int)))∧(((wA .i64 255 (pW (((m ^^^ 2 ^ (254 - d)) ^^^ 2 ^ (254 - d - 1)) ^^^ 2 ^ (254 - d - 2))))[(0+Int.toNat ((254 - d - 7:Nat):Int)*1)]? =some (.int .i64 ((pW (((m ^^^ 2 ^ (254 - d)) ^^^ 2 ^ (254 - d - 1)) ^^^ 2 ^ (254 - d - 2))).getD (254 - d - 7) 0)))∧((pW (((m ^^^ 2 ^ (254 - d)) ^^^ 2 ^ (254 - d - 1)) ^^^ 2 ^ (254 - d - 2))).getD (254 - d - 7) 0)=((pW (((m ^^^ 2 ^ (254 - d)) ^^^ 2 ^ (254 - d - 1)) ^^^ 2 ^ (254 - d - 2))).getD (254 - d - 7) 0)))∧True)∧(0≤((254 - d - 7:Nat):Int)∧((254 - d - 7:Nat):Int)<((255:Nat):Int)))∧((0+Int.toNat ((254 - d - 7:Nat):Int)*1)<(wA .i64 255 (pW (((m ^^^ 2 ^ (254 - d)) ^^^ 2 ^ (254 - d - 1)) ^^^ 2 ^ (254 - d - 2)))).size∧(wA .i64 255 (pW (((m ^^^ 2 ^ (254 - d)) ^^^ 2 ^ (254 - d - 1)) ^^^ 2 ^ (254 - d - 2)))).setIfInBounds (0+Int.toNat ((254 - d - 7:Nat):Int)*1) (.int .i64 (bits .xor .i64 ((pW (((m ^^^ 2 ^ (254 - d)) ^^^ 2 ^ (254 - d - 1)) ^^^ 2 ^ (254 - d - 2))).getD (254 - d - 7) 0) 1))=(wA .i64 255 (pW ((((m ^^^ 2 ^ (254 - d)) ^^^ 2 ^ (254 - d - 1)) ^^^ 2 ^ (254 - d - 2)) ^^^ 2 ^ (254 - d - 7))))))∧True)∧(True∧(IntKind.i64.wrap (((254 - d:Nat):Int) - 128))=((254 - d - 128:Nat):Int)))∧True)∧(True∧(IntKind.i64.wrap (((254 - d:Nat):Int) - 128))=((254 - d - 128:Nat):Int)))∧(0≤((254 - d - 128:Nat):Int)∧((254 - d - 128:Nat):Int)<((255:Nat):Int)))∧(((wA .i64 255 (pW ((((m ^^^ 2 ^ (254 - d)) ^^^ 2 ^ (254 - d - 1)) ^^^ 2 ^ (254 - d - 2)) ^^^ 2 ^ (254 - d - 7))))[(0+Int.toNat ((254 - d - 128:Nat):Int)*1)]? =some (.int .i64 ((pW ((((m ^^^ 2 ^ (254 - d)) ^^^ 2 ^ (254 - d - 1)) ^^^ 2 ^ (254 - d - 2)) ^^^ 2 ^ (254 - d - 7))).getD (254 - d - 128) 0)))∧((pW ((((m ^^^ 2 ^ (254 - d)) ^^^ 2 ^ (254 - d - 1)) ^^^ 2 ^ (254 - d - 2)) ^^^ 2 ^ (254 - d - 7))).getD (254 - d - 128) 0)=((pW ((((m ^^^ 2 ^ (254 - d)) ^^^ 2 ^ (254 - d - 1)) ^^^ 2 ^ (254 - d - 2)) ^^^ 2 ^ (254 - d - 7))).getD (254 - d - 128) 0)))∧True)∧(0≤((254 - d - 128:Nat):Int)∧((254 - d - 128:Nat):Int)<((255:Nat):Int)))∧((0+Int.toNat ((254 - d - 128:Nat):Int)*1)<(wA .i64 255 (pW ((((m ^^^ 2 ^ (254 - d)) ^^^ 2 ^ (254 - d - 1)) ^^^ 2 ^ (254 - d - 2)) ^^^ 2 ^ (254 - d - 7)))).size∧(wA .i64 255 (pW ((((m ^^^ 2 ^ (254 - d)) ^^^ 2 ^ (254 - d - 1)) ^^^ 2 ^ (254 - d - 2)) ^^^ 2 ^ (254 - d - 7)))).setIfInBounds (0+Int.toNat ((254 - d - 128:Nat):Int)*1) (.int .i64 (bits .xor .i64 ((pW ((((m ^^^ 2 ^ (254 - d)) ^^^ 2 ^ (254 - d - 1)) ^^^ 2 ^ (254 - d - 2)) ^^^ 2 ^ (254 - d - 7))).getD (254 - d - 128) 0) 1))=(wA .i64 255 (pW (((((m ^^^ 2 ^ (254 - d)) ^^^ 2 ^ (254 - d - 1)) ^^^ 2 ^ (254 - d - 2)) ^^^ 2 ^ (254 - d - 7)) ^^^ 2 ^ (254 - d - 128))))))∧True)∧(True∧(IntKind.i64.wrap (((254 - d:Nat):Int) - 1))=((254 - d - 1:Nat):Int)))∧True),[]⟩):=by kernel_rfl
theorem dTm0m (a b:Nat) (d m:Nat) (j:Nat→Value) (ha:a<2 ^ 128) (hb:b<2 ^ 128) (hm:m=rd (cm a b 128) d) (hd:d≤127) (hlt:d<127) (hb0:¬ m.testBit (254 - d)=false) {c0:Prop} {ch0:List (Option Value)}:Runs Try.prog (cAt [1,1,1,0,1,0,0] (bdy Try.f28)) ⟨dTmI_s a b d m j,dTmI_m a b d m,c0,ch0⟩ (fun e s=>e= .normal∧∃(j:Nat→Value) (c:Prop) (ch:List (Option Value)),((((((m ^^^ 2 ^ (254 - d)) ^^^ 2 ^ (254 - d - 1)) ^^^ 2 ^ (254 - d - 2)) ^^^ 2 ^ (254 - d - 7)) ^^^ 2 ^ (254 - d - 128))=rd (cm a b 128) (d+1))∧((d+1)≤127)∧s=⟨dTmI_s a b (d+1) (((((m ^^^ 2 ^ (254 - d)) ^^^ 2 ^ (254 - d - 1)) ^^^ 2 ^ (254 - d - 2)) ^^^ 2 ^ (254 - d - 7)) ^^^ 2 ^ (254 - d - 128)) j,dTmI_m a b (d+1) (((((m ^^^ 2 ^ (254 - d)) ^^^ 2 ^ (254 - d - 1)) ^^^ 2 ^ (254 - d - 2)) ^^^ 2 ^ (254 - d - 7)) ^^^ 2 ^ (254 - d - 128)),c,ch⟩) 0:=by
  have h0:(decide (128≤((254 - d:Nat):Int)))=true:=(decide_eq_true (by omega))
  have h1:(decide (((pW m).getD (254 - d) 0)=1))=true:=(decide_eq_true (by rw[pW_at (by omega)];unfold bti;rw[tb_of hb0];rfl))
  refine(runs_ev mixed _ (dTm0mp_0 a b d m j) ⟨⟨⟨⟨⟨⟨⟨⟨⟨⟨⟨⟨⟨⟨⟨⟨⟨⟨⟨⟨⟨⟨⟨⟨⟨⟨⟨⟨⟨⟨⟨⟨⟨⟨⟨⟨⟨⟨⟨⟨⟨⟨⟨⟨⟨⟨⟨⟨trivial,trivial⟩,⟨trivial,h0⟩⟩,trivial⟩,(by(try simp only[Int.toNat_natCast,wA_size]);omega)⟩,⟨(wA_get (by omega) (by omega)),rfl⟩⟩,⟨trivial,h1⟩⟩,trivial⟩,(by(try simp only[Int.toNat_natCast,wA_size]);omega)⟩,pW_put (by omega) (by rw[Int.toNat_natCast];omega) (fun k _=>bt_flip m (254 - d) (by rw[tb_of hb0];rfl) k)⟩,trivial⟩,⟨trivial,(by rw[IntKind.wrap_i64];omega)⟩⟩,trivial⟩,⟨trivial,(by rw[IntKind.wrap_i64];omega)⟩⟩,(by(try simp only[Int.toNat_natCast,wA_size]);omega)⟩,⟨(wA_get (by omega) (by omega)),rfl⟩⟩,trivial⟩,(by(try simp only[Int.toNat_natCast,wA_size]);omega)⟩,pW_put (by omega) (by rw[Int.toNat_natCast];omega) (fun k _=>bt_flip (m ^^^ 2 ^ (254 - d)) (254 - d - 1) (by rw[pW_at (by omega),xb1]) k)⟩,trivial⟩,⟨trivial,(by rw[IntKind.wrap_i64];omega)⟩⟩,trivial⟩,⟨trivial,(by rw[IntKind.wrap_i64];omega)⟩⟩,(by(try simp only[Int.toNat_natCast,wA_size]);omega)⟩,⟨(wA_get (by omega) (by omega)),rfl⟩⟩,trivial⟩,(by(try simp only[Int.toNat_natCast,wA_size]);omega)⟩,pW_put (by omega) (by rw[Int.toNat_natCast];omega) (fun k _=>bt_flip ((m ^^^ 2 ^ (254 - d)) ^^^ 2 ^ (254 - d - 1)) (254 - d - 2) (by rw[pW_at (by omega),xb1]) k)⟩,trivial⟩,⟨trivial,(by rw[IntKind.wrap_i64];omega)⟩⟩,trivial⟩,⟨trivial,(by rw[IntKind.wrap_i64];omega)⟩⟩,(by(try simp only[Int.toNat_natCast,wA_size]);omega)⟩,⟨(wA_get (by omega) (by omega)),rfl⟩⟩,trivial⟩,(by(try simp only[Int.toNat_natCast,wA_size]);omega)⟩,pW_put (by omega) (by rw[Int.toNat_natCast];omega) (fun k _=>bt_flip (((m ^^^ 2 ^ (254 - d)) ^^^ 2 ^ (254 - d - 1)) ^^^ 2 ^ (254 - d - 2)) (254 - d - 7) (by rw[pW_at (by omega),xb1]) k)⟩,trivial⟩,⟨trivial,(by rw[IntKind.wrap_i64];omega)⟩⟩,trivial⟩,⟨trivial,(by rw[IntKind.wrap_i64];omega)⟩⟩,(by(try simp only[Int.toNat_natCast,wA_size]);omega)⟩,⟨(wA_get (by omega) (by omega)),rfl⟩⟩,trivial⟩,(by(try simp only[Int.toNat_natCast,wA_size]);omega)⟩,pW_put (by omega) (by rw[Int.toNat_natCast];omega) (fun k _=>bt_flip ((((m ^^^ 2 ^ (254 - d)) ^^^ 2 ^ (254 - d - 1)) ^^^ 2 ^ (254 - d - 2)) ^^^ 2 ^ (254 - d - 7)) (254 - d - 128) (by rw[pW_at (by omega),xb1]) k)⟩,trivial⟩,⟨trivial,(by rw[IntKind.wrap_i64];omega)⟩⟩,trivial⟩).mono ?_
  rintro e s ⟨rfl,hs⟩
  refine⟨rfl,fun q=>s.tm.getD q undef,s.c,s.ch,by rw[rd,← hm,tb_of hb0,cond_true];exact rc_chain m d,by omega,?_⟩
  subst hs
  kernel_rfl
theorem dTm0n (a b:Nat) (d m:Nat) (j:Nat→Value) (ha:a<2 ^ 128) (hb:b<2 ^ 128) (hm:m=rd (cm a b 128) d) (hd:d≤127) (hlt:d<127) {c0:Prop} {ch0:List (Option Value)}:Runs Try.prog (cAt [1,1,1,0,1,0,0] (bdy Try.f28)) ⟨dTmI_s a b d m j,dTmI_m a b d m,c0,ch0⟩ (fun e s=>e= .normal∧∃(m2:Nat) (j:Nat→Value) (c:Prop) (ch:List (Option Value)),(m2=rd (cm a b 128) (d+1))∧((d+1)≤127)∧s=⟨dTmI_s a b (d+1) m2 j,dTmI_m a b (d+1) m2,c,ch⟩) 0:=by
  by_cases hb0:m.testBit (254 - d)=false
  · refine (dTm0l a b d m j ha hb hm hd hlt hb0).mono ?_
    rintro e s ⟨rfl,j,c,ch,f2,f3,rfl⟩
    exact⟨rfl,m,j,c,ch,f2,f3,rfl⟩
  · refine (dTm0m a b d m j ha hb hm hd hlt hb0).mono ?_
    rintro e s ⟨rfl,j,c,ch,f2,f3,rfl⟩
    exact⟨rfl,(((((m ^^^ 2 ^ (254 - d)) ^^^ 2 ^ (254 - d - 1)) ^^^ 2 ^ (254 - d - 2)) ^^^ 2 ^ (254 - d - 7)) ^^^ 2 ^ (254 - d - 128)),j,c,ch,f2,f3,rfl⟩
abbrev dTmJ_s (a b:Nat) (d m:Nat) (j:Nat→Value):List Value:=([j 0,j 1,.pointer (some ⟨0,0,none⟩),.pointer (some ⟨1,0,none⟩),.pointer (some ⟨2,0,none⟩),.pointer (some ⟨3,0,none⟩)] ++ (J j 6 82))
abbrev dTmJ_m (a b:Nat) (d m:Nat):List Mb:= [((wA .i64 128 (pL a)),(47,(0,0))),((wA .i64 128 (pL b)),(47,(0,0))),((wA .i64 128 []),(47,(0,0))),((wA .i64 255 (pW m)),(63,(0,0)))]
def dTm0op_h (i:Nat):Hn:=if i=9 then⟨13,[],[],[],[]⟩ else⟨0,[],[],[],[]⟩
def dTm0op_b (a b:Nat) (d m:Nat) (j:Nat→Value):List Value:=([j 0,j 1,.pointer (some ⟨0,0,none⟩),.pointer (some ⟨1,0,none⟩),.pointer (some ⟨2,0,none⟩),.pointer (some ⟨3,0,none⟩),j 6,j 7,.int .i64 ((254 - d:Nat):Int)] ++ (J j 9 27 ++ ([.int .i64 ((254 - d:Nat):Int),.bool false] ++ (J j 38 50))))
theorem dTm0op_0 (a b:Nat) (d m:Nat) (j:Nat→Value):evC (yty.en tabV0) dTm0op_h (cAt [1,1,1,0,1,0,0] (bdy Try.f28)) ⟨dTmI_s a b d m j,dTmI_m a b d m,True,[some (.bool false)]⟩=some ((.exit 4),⟨dTm0op_b a b d m j,[((wA .i64 128 (pL a)),(47,(0,0))),((wA .i64 128 (pL b)),(47,(0,0))),((wA .i64 128 []),(47,(0,0))),((wA .i64 255 (pW m)),(63,(0,0)))],((True∧True)∧(True∧(decide (128≤((254 - d:Nat):Int)))=false)),[]⟩):=by kernel_rfl
theorem dTm0o (a b:Nat) (d m:Nat) (j:Nat→Value) (ha:a<2 ^ 128) (hb:b<2 ^ 128) (hm:m=rd (cm a b 128) d) (hd:d≤127) (hge:¬ d<127) {c0:Prop} {ch0:List (Option Value)}:Runs Try.prog (cAt [1,1,1,0,1,0,0] (bdy Try.f28)) ⟨dTmI_s a b d m j,dTmI_m a b d m,c0,ch0⟩ (fun e s=>e=(.exit 4)∧∃(j:Nat→Value) (c:Prop) (ch:List (Option Value)),(m=rd (cm a b 128) 127)∧s=⟨dTmJ_s a b d m j,dTmJ_m a b d m,c,ch⟩) 0:=by
  have h0:(decide (128≤((254 - d:Nat):Int)))=false:=(decide_eq_false (by omega))
  refine(runs_ev mixed _ (dTm0op_0 a b d m j) ⟨⟨trivial,trivial⟩,⟨trivial,h0⟩⟩).mono ?_
  rintro e s ⟨rfl,hs⟩
  refine⟨rfl,fun q=>s.tm.getD q undef,s.c,s.ch,by rw[hm,show d=127 by omega],?_⟩
  subst hs
  kernel_rfl
theorem dTm0pL (a:Nat) (b:Nat) (m:Nat) (j:Nat→Value) (ha:a<2 ^ 128) (hb:b<2 ^ 128) (ihm:m=rd (cm a b 128) 0) (ihd:0≤127)  {c0:Prop} {ch0:List (Option Value)}:Runs Try.prog (.loop (cAt [1,1,1,0,1,0,0] (bdy Try.f28))) ⟨dTmI_s a b 0 m j,dTmI_m a b 0 m,c0,ch0⟩ (fun e s=>e= .exit 4∧∃(d:Nat) (m:Nat) (j:Nat→Value) (c:Prop) (ch:List (Option Value)),(m=rd (cm a b 128) 127)∧s=⟨dTmJ_s a b d m j,dTmJ_m a b d m,c,ch⟩) 0:=by
  refine runs_loop (fun M s=>∃(d:Nat) (m:Nat) (j:Nat→Value) (c:Prop) (ch:List (Option Value)),(m=rd (cm a b 128) d)∧(d≤127)∧M=127 - d∧s=⟨dTmI_s a b d m j,dTmI_m a b d m,c,ch⟩) (127 - 0) ⟨0,m,j,c0,ch0,ihm,ihd,rfl,rfl⟩ ?_
  rintro M s ⟨d,m,j,c,ch,hm,hd,rfl,rfl⟩
  by_cases hlt:d<127
  · skip
    refine(dTm0n a b d m j ha hb hm hd hlt).mono ?_
    rintro e s ⟨rfl,m2_,j,c,ch,f2,f3,rfl⟩
    exact .inl ⟨rfl,127 - (d+1),by omega,⟨(d+1),m2_,j,c,ch,f2,f3,rfl,rfl⟩⟩
  · refine (dTm0o a b d m j ha hb hm hd hlt).mono ?_
    intro e s hh
    obtain⟨rfl,j,c,ch,f0,rfl⟩:=hh
    exact .inr ⟨by simp,rfl,d,m,j,c,ch,f0,rfl⟩
theorem dTm0p (a:Nat) (b:Nat) (m:Nat) (j:Nat→Value) (ha:a<2 ^ 128) (hb:b<2 ^ 128) (ihm:m=rd (cm a b 128) 0) (ihd:0≤127)  {c0:Prop} {ch0:List (Option Value)}:Runs Try.prog (cAt [1,1,1,0,1] (bdy Try.f28)) ⟨dTmI_s a b 0 m j,dTmI_m a b 0 m,c0,ch0⟩ (fun e s=>e= .normal∧∃(d:Nat) (m:Nat) (j:Nat→Value) (c:Prop) (ch:List (Option Value)),(m=rd (cm a b 128) 127)∧s=⟨dTmJ_s a b d m j,dTmJ_m a b d m,c,ch⟩) 0:=by
  rw[show(cAt [1,1,1,0,1] (bdy Try.f28))= .block 4 (.loop (cAt [1,1,1,0,1,0,0] (bdy Try.f28))) from by kernel_rfl]
  refine runs_block (dTm0pL a b m j ha hb ihm ihd ) ?_
  rintro e s ⟨rfl,hh⟩
  exact .inl ⟨rfl,rfl,hh⟩
theorem dTm0q (a b:Nat) (i m:Nat) (j:Nat→Value) (ha:a<2 ^ 128) (hb:b<2 ^ 128) (hm:m=cm a b 128)  {c0:Prop} {ch0:List (Option Value)}:Runs Try.prog (cAt [1,1,1,0] (bdy Try.f28)) ⟨dTmH_s a b i m j,dTmH_m a b i m,c0,ch0⟩ (fun e s=>e= .normal∧∃(d1:Nat) (m1:Nat) (j:Nat→Value) (c:Prop) (ch:List (Option Value)),(m1=rd (cm a b 128) 127)∧s=⟨dTmJ_s a b d1 m1 j,dTmJ_m a b d1 m1,c,ch⟩) 0:=by
  rw[show(cAt [1,1,1,0] (bdy Try.f28))=(.seq (cAt [1,1,1,0,0] (bdy Try.f28)) (cAt [1,1,1,0,1] (bdy Try.f28))) from by kernel_rfl]
  refine runs_seq (dTm0k a b i m j ha hb hm ) (fun s hh=> ?_) (fun e s hne hh=>absurd hh.1 hne)
  obtain⟨_,j,c,ch,f0_2,f0_3,rfl⟩:=hh
  refine(dTm0p a b m j ha hb f0_2 f0_3 ).mono ?_
  rintro e s ⟨rfl,d1,m1,j,c,ch,f1_0,rfl⟩
  exact⟨rfl,d1,m1,j,c,ch,f1_0,rfl⟩
abbrev dTmK_s (a b:Nat) (d m:Nat) (j:Nat→Value):List Value:=(J j 0 4 ++ ([.pointer (some ⟨2,0,none⟩),.pointer (some ⟨3,0,none⟩)] ++ (J j 6 3 ++ ([.pointer (some ⟨4,0,none⟩)] ++ (J j 10 78)))))
abbrev dTmK_m (a b:Nat) (d m:Nat):List Mb:= [((wA .i64 128 (pL a)),(47,(0,0))),((wA .i64 128 (pL b)),(47,(0,0))),((wA .i64 128 []),(47,(0,0))),((wA .i64 255 (pW m)),(63,(0,0))),((wA .i64 128 []),(47,(0,0)))]
def dTm0rp_h (i:Nat):Hn:=if i=9 then⟨13,[],[],[],[]⟩ else⟨0,[],[],[],[]⟩
def dTm0rp_b (a b:Nat) (d m:Nat) (j:Nat→Value):List Value:=([j 0,j 1,.pointer (some ⟨0,0,none⟩),.pointer (some ⟨1,0,none⟩),.pointer (some ⟨2,0,none⟩),.pointer (some ⟨3,0,none⟩)] ++ (J j 6 3 ++ ([.pointer (some ⟨4,0,none⟩)] ++ (J j 10 78))))
theorem dTm0rp_0 (a b:Nat) (d m:Nat) (j:Nat→Value):evC (yty.en tabV0) dTm0rp_h (cAt [1,1,1,1,0] (bdy Try.f28)) ⟨dTmJ_s a b d m j,dTmJ_m a b d m,True,[]⟩=some (.normal,⟨dTm0rp_b a b d m j,[((wA .i64 128 (pL a)),(47,(0,0))),((wA .i64 128 (pL b)),(47,(0,0))),((wA .i64 128 []),(47,(0,0))),((wA .i64 255 (pW m)),(63,(0,0))),((wA .i64 128 []),(47,(0,0)))],True,[]⟩):=by kernel_rfl
theorem dTm0r (a b:Nat) (d m:Nat) (j:Nat→Value) (hm:m=rd (cm a b 128) 127)  {c0:Prop} {ch0:List (Option Value)}:Runs Try.prog (cAt [1,1,1,1,0] (bdy Try.f28)) ⟨dTmJ_s a b d m j,dTmJ_m a b d m,c0,ch0⟩ (fun e s=>e= .normal∧∃(j:Nat→Value) (c:Prop) (ch:List (Option Value)),s=⟨dTmK_s a b d m j,dTmK_m a b d m,c,ch⟩) 0:=by
  refine(runs_ev mixed _ (dTm0rp_0 a b d m j) trivial).mono ?_
  rintro e s ⟨rfl,hs⟩
  refine⟨rfl,fun q=>s.tm.getD q undef,s.c,s.ch,?_⟩
  subst hs
  kernel_rfl
abbrev dTmL_s (a b:Nat) (d m:Nat) (i:Nat) (j:Nat→Value):List Value:=(J j 0 4 ++ ([.pointer (some ⟨2,0,none⟩),.pointer (some ⟨3,0,none⟩)] ++ (J j 6 3 ++ ([.pointer (some ⟨4,0,none⟩),.int .i64 ((i:Nat):Int)] ++ (J j 11 77)))))
abbrev dTmL_m (a b:Nat) (d m:Nat) (i:Nat):List Mb:= [((wA .i64 128 (pL a)),(47,(0,0))),((wA .i64 128 (pL b)),(47,(0,0))),((wA .i64 128 []),(47,(0,0))),((wA .i64 255 (pW m)),(63,(0,0))),((wA .i64 128 (pL (zm m i))),(47,(0,0)))]
def dTm0sp_h (i:Nat):Hn:=if i=9 then⟨13,[],[],[],[]⟩ else⟨0,[],[],[],[]⟩
def dTm0sp_b (a b:Nat) (d m:Nat) (j:Nat→Value):List Value:=(J j 0 4 ++ ([.pointer (some ⟨2,0,none⟩),.pointer (some ⟨3,0,none⟩)] ++ (J j 6 3 ++ ([.pointer (some ⟨4,0,none⟩),.int .i64 0] ++ (J j 11 77)))))
theorem dTm0sp_0 (a b:Nat) (d m:Nat) (j:Nat→Value):evC (yty.en tabV0) dTm0sp_h (cAt [1,1,1,1,1,0,0] (bdy Try.f28)) ⟨dTmK_s a b d m j,dTmK_m a b d m,True,[]⟩=some (.normal,⟨dTm0sp_b a b d m j,[((wA .i64 128 (pL a)),(47,(0,0))),((wA .i64 128 (pL b)),(47,(0,0))),((wA .i64 128 []),(47,(0,0))),((wA .i64 255 (pW m)),(63,(0,0))),((wA .i64 128 []),(47,(0,0)))],(True∧True),[]⟩):=by kernel_rfl
theorem dTm0s (a b:Nat) (d m:Nat) (j:Nat→Value) (hm:m=rd (cm a b 128) 127)  {c0:Prop} {ch0:List (Option Value)}:Runs Try.prog (cAt [1,1,1,1,1,0,0] (bdy Try.f28)) ⟨dTmK_s a b d m j,dTmK_m a b d m,c0,ch0⟩ (fun e s=>e= .normal∧∃(j:Nat→Value) (c:Prop) (ch:List (Option Value)),(0≤128)∧s=⟨dTmL_s a b d m 0 j,dTmL_m a b d m 0,c,ch⟩) 0:=by
  refine(runs_ev mixed _ (dTm0sp_0 a b d m j) ⟨trivial,trivial⟩).mono ?_
  rintro e s ⟨rfl,hs⟩
  refine⟨rfl,fun q=>s.tm.getD q undef,s.c,s.ch,by omega,?_⟩
  subst hs
  kernel_rfl
def dTm0tp_h (i:Nat):Hn:=if i=9 then⟨13,[],[],[],[]⟩ else⟨0,[],[],[],[]⟩
def dTm0tp_b (a b:Nat) (d m:Nat) (i:Nat) (j:Nat→Value):List Value:=(J j 0 4 ++ ([.pointer (some ⟨2,0,none⟩),.pointer (some ⟨3,0,none⟩)] ++ (J j 6 3 ++ ([.pointer (some ⟨4,0,none⟩),.int .i64 ((i+1:Nat):Int)] ++ (J j 11 67 ++ ([.int .i64 ((i:Nat):Int),.bool true,.int .i64 ((i:Nat):Int),.int .i64 ((i+1:Nat):Int),.int .i64 ((i:Nat):Int),.int .i64 ((i:Nat):Int),.pointer (some ⟨3,0+Int.toNat ((i:Nat):Int)*1,none⟩),.int .i64 ((pW m).getD i 0),.pointer (some ⟨4,0+Int.toNat ((i:Nat):Int)*1,none⟩),j 87]))))))
theorem dTm0tp_0 (a b:Nat) (d m:Nat) (i:Nat) (j:Nat→Value):evC (yty.en tabV0) dTm0tp_h (cAt [1,1,1,1,1,0,1,0,0] (bdy Try.f28)) ⟨dTmL_s a b d m i j,dTmL_m a b d m i,True,[some (.bool true),some (.int .i64 ((pW m).getD i 0)),some (.agg (wA .i64 128 (pL (zm m (i+1))))),some (.int .i64 ((i+1:Nat):Int))]⟩=some (.normal,⟨dTm0tp_b a b d m i j,[((wA .i64 128 (pL a)),(47,(0,0))),((wA .i64 128 (pL b)),(47,(0,0))),((wA .i64 128 []),(47,(0,0))),((wA .i64 255 (pW m)),(63,(0,0))),((wA .i64 128 (pL (zm m (i+1)))),(47,(0,0)))],(((((((((((True∧True)∧(True∧(decide (((i:Nat):Int)<128))=true))∧True)∧True)∧(0≤((i:Nat):Int)∧((i:Nat):Int)<((255:Nat):Int)))∧(((wA .i64 255 (pW m))[(0+Int.toNat ((i:Nat):Int)*1)]? =some (.int .i64 ((pW m).getD i 0)))∧((pW m).getD i 0)=((pW m).getD i 0)))∧(0≤((i:Nat):Int)∧((i:Nat):Int)<((128:Nat):Int)))∧((0+Int.toNat ((i:Nat):Int)*1)<(wA .i64 128 (pL (zm m i))).size∧(wA .i64 128 (pL (zm m i))).setIfInBounds (0+Int.toNat ((i:Nat):Int)*1) (.int .i64 ((pW m).getD i 0))=(wA .i64 128 (pL (zm m (i+1))))))∧True)∧(True∧(IntKind.i64.wrap (((i:Nat):Int)+1))=((i+1:Nat):Int)))∧True),[]⟩):=by kernel_rfl
theorem dTm0t (a b:Nat) (d m:Nat) (i:Nat) (j:Nat→Value) (hm:m=rd (cm a b 128) 127) (hi:i≤128) (hlt:i<128) {c0:Prop} {ch0:List (Option Value)}:Runs Try.prog (cAt [1,1,1,1,1,0,1,0,0] (bdy Try.f28)) ⟨dTmL_s a b d m i j,dTmL_m a b d m i,c0,ch0⟩ (fun e s=>e= .normal∧∃(j:Nat→Value) (c:Prop) (ch:List (Option Value)),((i+1)≤128)∧s=⟨dTmL_s a b d m (i+1) j,dTmL_m a b d m (i+1),c,ch⟩) 0:=by
  have h0:(decide (((i:Nat):Int)<128))=true:=(decide_eq_true (by omega))
  refine(runs_ev mixed _ (dTm0tp_0 a b d m i j) ⟨⟨⟨⟨⟨⟨⟨⟨⟨⟨⟨trivial,trivial⟩,⟨trivial,h0⟩⟩,trivial⟩,trivial⟩,(by(try simp only[Int.toNat_natCast,wA_size]);omega)⟩,⟨(wA_get (by omega) (by omega)),rfl⟩⟩,(by(try simp only[Int.toNat_natCast,wA_size]);omega)⟩,pL_put hlt (by rw[Int.toNat_natCast];omega) (fun k _=>bt_zm _ _ (pW_at (by omega)) k)⟩,trivial⟩,⟨trivial,(by rw[IntKind.wrap_i64];omega)⟩⟩,trivial⟩).mono ?_
  rintro e s ⟨rfl,hs⟩
  refine⟨rfl,fun q=>s.tm.getD q undef,s.c,s.ch,by omega,?_⟩
  subst hs
  kernel_rfl
abbrev dTmM_s (a b:Nat) (d m:Nat) (i:Nat) (j:Nat→Value):List Value:=(J j 0 4 ++ ([.pointer (some ⟨2,0,none⟩),.pointer (some ⟨3,0,none⟩)] ++ (J j 6 3 ++ ([.pointer (some ⟨4,0,none⟩)] ++ (J j 10 78)))))
abbrev dTmM_m (a b:Nat) (d m:Nat) (i:Nat):List Mb:= [((wA .i64 128 (pL a)),(47,(0,0))),((wA .i64 128 (pL b)),(47,(0,0))),((wA .i64 128 []),(47,(0,0))),((wA .i64 255 (pW m)),(63,(0,0))),((wA .i64 128 (pL m)),(47,(0,0)))]
def dTm0up_h (i:Nat):Hn:=if i=9 then⟨13,[],[],[],[]⟩ else⟨0,[],[],[],[]⟩
def dTm0up_b (a b:Nat) (d m:Nat) (i:Nat) (j:Nat→Value):List Value:=(J j 0 4 ++ ([.pointer (some ⟨2,0,none⟩),.pointer (some ⟨3,0,none⟩)] ++ (J j 6 3 ++ ([.pointer (some ⟨4,0,none⟩),.int .i64 ((i:Nat):Int)] ++ (J j 11 67 ++ ([.int .i64 ((i:Nat):Int),.bool false] ++ (J j 80 8)))))))
theorem dTm0up_0 (a b:Nat) (d m:Nat) (i:Nat) (j:Nat→Value):evC (yty.en tabV0) dTm0up_h (cAt [1,1,1,1,1,0,1,0,0] (bdy Try.f28)) ⟨dTmL_s a b d m i j,dTmL_m a b d m i,True,[some (.bool false)]⟩=some ((.exit 6),⟨dTm0up_b a b d m i j,[((wA .i64 128 (pL a)),(47,(0,0))),((wA .i64 128 (pL b)),(47,(0,0))),((wA .i64 128 []),(47,(0,0))),((wA .i64 255 (pW m)),(63,(0,0))),((wA .i64 128 (pL (zm m i))),(47,(0,0)))],((True∧True)∧(True∧(decide (((i:Nat):Int)<128))=false)),[]⟩):=by kernel_rfl
theorem dTm0u (a b:Nat) (d m:Nat) (i:Nat) (j:Nat→Value) (hm:m=rd (cm a b 128) 127) (hi:i≤128) (hge:¬ i<128) {c0:Prop} {ch0:List (Option Value)}:Runs Try.prog (cAt [1,1,1,1,1,0,1,0,0] (bdy Try.f28)) ⟨dTmL_s a b d m i j,dTmL_m a b d m i,c0,ch0⟩ (fun e s=>e=(.exit 6)∧∃(j:Nat→Value) (c:Prop) (ch:List (Option Value)),s=⟨dTmM_s a b d m i j,dTmM_m a b d m i,c,ch⟩) 0:=by
  have h0:(decide (((i:Nat):Int)<128))=false:=(decide_eq_false (by omega))
  refine(runs_ev mixed _ (dTm0up_0 a b d m i j) ⟨⟨trivial,trivial⟩,⟨trivial,h0⟩⟩).mono ?_
  rintro e s ⟨rfl,hs⟩
  refine⟨rfl,fun q=>s.tm.getD q undef,s.c,s.ch,?_⟩
  subst hs
  rw[show i=128 by omega,zm_eq,pL_mod]
  kernel_rfl
theorem dTm0vL (a:Nat) (b:Nat) (d:Nat) (m:Nat) (j:Nat→Value) (hm:m=rd (cm a b 128) 127) (ihi:0≤128)  {c0:Prop} {ch0:List (Option Value)}:Runs Try.prog (.loop (cAt [1,1,1,1,1,0,1,0,0] (bdy Try.f28))) ⟨dTmL_s a b d m 0 j,dTmL_m a b d m 0,c0,ch0⟩ (fun e s=>e= .exit 6∧∃(i:Nat) (j:Nat→Value) (c:Prop) (ch:List (Option Value)),s=⟨dTmM_s a b d m i j,dTmM_m a b d m i,c,ch⟩) 0:=by
  refine runs_loop (fun M s=>∃(i:Nat) (j:Nat→Value) (c:Prop) (ch:List (Option Value)),(i≤128)∧M=128 - i∧s=⟨dTmL_s a b d m i j,dTmL_m a b d m i,c,ch⟩) (128 - 0) ⟨0,j,c0,ch0,ihi,rfl,rfl⟩ ?_
  rintro M s ⟨i,j,c,ch,hi,rfl,rfl⟩
  by_cases hlt:i<128
  · skip
    refine(dTm0t a b d m i j hm hi hlt).mono ?_
    rintro e s ⟨rfl,j,c,ch,f1,rfl⟩
    exact .inl ⟨rfl,128 - (i+1),by omega,⟨(i+1),j,c,ch,f1,rfl,rfl⟩⟩
  · refine (dTm0u a b d m i j hm hi hlt).mono ?_
    intro e s hh
    obtain⟨rfl,j,c,ch,rfl⟩:=hh
    exact .inr ⟨by simp,rfl,i,j,c,ch,rfl⟩
theorem dTm0v (a:Nat) (b:Nat) (d:Nat) (m:Nat) (j:Nat→Value) (hm:m=rd (cm a b 128) 127) (ihi:0≤128)  {c0:Prop} {ch0:List (Option Value)}:Runs Try.prog (cAt [1,1,1,1,1,0,1] (bdy Try.f28)) ⟨dTmL_s a b d m 0 j,dTmL_m a b d m 0,c0,ch0⟩ (fun e s=>e= .normal∧∃(i:Nat) (j:Nat→Value) (c:Prop) (ch:List (Option Value)),s=⟨dTmM_s a b d m i j,dTmM_m a b d m i,c,ch⟩) 0:=by
  rw[show(cAt [1,1,1,1,1,0,1] (bdy Try.f28))= .block 6 (.loop (cAt [1,1,1,1,1,0,1,0,0] (bdy Try.f28))) from by kernel_rfl]
  refine runs_block (dTm0vL a b d m j hm ihi ) ?_
  rintro e s ⟨rfl,hh⟩
  exact .inl ⟨rfl,rfl,hh⟩
theorem dTm0w (a b:Nat) (d m:Nat) (j:Nat→Value) (hm:m=rd (cm a b 128) 127)  {c0:Prop} {ch0:List (Option Value)}:Runs Try.prog (cAt [1,1,1,1,1,0] (bdy Try.f28)) ⟨dTmK_s a b d m j,dTmK_m a b d m,c0,ch0⟩ (fun e s=>e= .normal∧∃(i1:Nat) (j:Nat→Value) (c:Prop) (ch:List (Option Value)),s=⟨dTmM_s a b d m i1 j,dTmM_m a b d m i1,c,ch⟩) 0:=by
  rw[show(cAt [1,1,1,1,1,0] (bdy Try.f28))=(.seq (cAt [1,1,1,1,1,0,0] (bdy Try.f28)) (cAt [1,1,1,1,1,0,1] (bdy Try.f28))) from by kernel_rfl]
  refine runs_seq (dTm0s a b d m j hm ) (fun s hh=> ?_) (fun e s hne hh=>absurd hh.1 hne)
  obtain⟨_,j,c,ch,f0_1,rfl⟩:=hh
  refine(dTm0v a b d m j hm f0_1 ).mono ?_
  rintro e s ⟨rfl,i1,j,c,ch,rfl⟩
  exact⟨rfl,i1,j,c,ch,rfl⟩
abbrev dTmN_s (a b:Nat) (d m:Nat) (i:Nat) (j:Nat→Value):List Value:=(J j 0 4 ++ ([.pointer (some ⟨2,0,none⟩)] ++ (J j 5 83)))
abbrev dTmN_m (a b:Nat) (d m:Nat) (i:Nat):List Mb:= [((wA .i64 128 (pL a)),(47,(0,0))),((wA .i64 128 (pL b)),(47,(0,0))),((wA .i64 128 (pL m)),(47,(0,0))),((wA .i64 255 (pW m)),(63,(0,0))),((wA .i64 128 (pL m)),(47,(0,0)))]
def dTm0xp_h (i:Nat):Hn:=if i=9 then⟨13,[],[],[],[]⟩ else⟨0,[],[],[],[]⟩
def dTm0xp_b (a b:Nat) (d m:Nat) (i:Nat) (j:Nat→Value):List Value:=(J j 0 4 ++ ([.pointer (some ⟨2,0,none⟩),.pointer (some ⟨3,0,none⟩)] ++ (J j 6 3 ++ ([.pointer (some ⟨4,0,none⟩)] ++ (J j 10 77 ++ ([.agg (wA .i64 128 (pL m))]))))))
theorem dTm0xp_0 (a b:Nat) (d m:Nat) (i:Nat) (j:Nat→Value):evC (yty.en tabV0) dTm0xp_h (cAt [1,1,1,1,1,1] (bdy Try.f28)) ⟨dTmM_s a b d m i j,dTmM_m a b d m i,True,[]⟩=some (.ret,⟨dTm0xp_b a b d m i j,[((wA .i64 128 (pL a)),(47,(0,0))),((wA .i64 128 (pL b)),(47,(0,0))),((wA .i64 128 (pL m)),(47,(0,0))),((wA .i64 255 (pW m)),(63,(0,0))),((wA .i64 128 (pL m)),(47,(0,0)))],((True∧True)∧((wA .i64 128 (pL m)).all (fun v=>v.oneCell')=true)),[]⟩):=by kernel_rfl
theorem dTm0x (a b:Nat) (d m:Nat) (i:Nat) (j:Nat→Value) (hm:m=rd (cm a b 128) 127)  {c0:Prop} {ch0:List (Option Value)}:Runs Try.prog (cAt [1,1,1,1,1,1] (bdy Try.f28)) ⟨dTmM_s a b d m i j,dTmM_m a b d m i,c0,ch0⟩ (fun e s=>e= .ret∧∃(j:Nat→Value) (c:Prop) (ch:List (Option Value)),s=⟨dTmN_s a b d m i j,dTmN_m a b d m i,c,ch⟩) 0:=by
  refine(runs_ev mixed _ (dTm0xp_0 a b d m i j) ⟨⟨trivial,trivial⟩,(wA_one _ _ _)⟩).mono ?_
  rintro e s ⟨rfl,hs⟩
  refine⟨rfl,fun q=>s.tm.getD q undef,s.c,s.ch,?_⟩
  subst hs
  kernel_rfl
theorem dTmu (a b:Nat) (j:Nat→Value) (ha:a<2 ^ 128) (hb:b<2 ^ 128)  {c0:Prop} {ch0:List (Option Value)}:Runs Try.prog (cAt [] (bdy Try.f28)) ⟨dTmA_s a b j,dTmA_m a b,c0,ch0⟩ (fun e s=>e= .ret∧∃(i12:Nat) (m12:Nat) (d13:Nat) (m13:Nat) (i15:Nat) (j:Nat→Value) (c:Prop) (ch:List (Option Value)),(m13=rd (cm a b 128) 127)∧s=⟨dTmN_s a b d13 m13 i15 j,dTmN_m a b d13 m13 i15,c,ch⟩) 0:=by
  rw[show(cAt [] (bdy Try.f28))=(.seq (cAt [0] (bdy Try.f28)) (.seq (cAt [1,0] (bdy Try.f28)) (.seq (cAt [1,1,0] (bdy Try.f28)) (.seq (cAt [1,1,1,0] (bdy Try.f28)) (.seq (cAt [1,1,1,1,0] (bdy Try.f28)) (.seq (cAt [1,1,1,1,1,0] (bdy Try.f28)) (cAt [1,1,1,1,1,1] (bdy Try.f28)))))))) from by kernel_rfl]
  refine runs_seq (dTm0 a b j ha hb ) (fun s hh=> ?_) (fun e s hne hh=>absurd hh.1 hne)
  obtain⟨_,j,c,ch,rfl⟩:=hh
  refine runs_seq (dTm1 a b j ha hb ) (fun s hh=> ?_) (fun e s hne hh=>absurd hh.1 hne)
  obtain⟨_,j,c,ch,rfl⟩:=hh
  refine runs_seq (dTm0j a b j ha hb ) (fun s hh=> ?_) (fun e s hne hh=>absurd hh.1 hne)
  obtain⟨_,i12,m12,j,c,ch,f2_2,rfl⟩:=hh
  refine runs_seq (dTm0q a b i12 m12 j ha hb f2_2 ) (fun s hh=> ?_) (fun e s hne hh=>absurd hh.1 hne)
  obtain⟨_,d13,m13,j,c,ch,f3_0,rfl⟩:=hh
  refine runs_seq (dTm0r a b d13 m13 j f3_0 ) (fun s hh=> ?_) (fun e s hne hh=>absurd hh.1 hne)
  obtain⟨_,j,c,ch,rfl⟩:=hh
  refine runs_seq (dTm0w a b d13 m13 j f3_0 ) (fun s hh=> ?_) (fun e s hne hh=>absurd hh.1 hne)
  obtain⟨_,i15,j,c,ch,rfl⟩:=hh
  refine(dTm0x a b d13 m13 i15 j f3_0 ).mono ?_
  rintro e s ⟨rfl,j,c,ch,rfl⟩
  exact⟨rfl,i12,m12,d13,m13,i15,j,c,ch,f3_0,rfl⟩
theorem dTm_c (a b:Nat) (ha:a<2 ^ 128) (hb:b<2 ^ 128):Pure Try.prog 28 #[.agg (wA .i64 128 (pL a)),.agg (wA .i64 128 (pL b))] (.agg (wA .i64 128 (pL (tmN a b)))):=by
  refine pure_runs (E:=(yty.en tabV0)) Try.func28 (c:=bdy Try.f28) (by kernel_rfl) (args:= [.agg (wA .i64 128 (pL a)),.agg (wA .i64 128 (pL b))]) (by kernel_rfl) (K:=fun e s=>e= .ret∧resS (yty.en tabV0) s Try.f28.results.toList=some [.agg (wA .i64 128 (pL (tmN a b)))]) ?_ (fun e s h=>⟨h.1,_,h.2,rfl⟩)
  refine(dTmu a b (fun _=>undef) ha hb).mono ?_
  rintro e s ⟨rfl,i,m,d,m2,i2,j,c,ch,hm,rfl⟩
  rw[show pL (tmN a b)=pL m2 from by rw[hm];exact pL_mod]
  exact⟨rfl,by kernel_rfl⟩
abbrev dByA_s (n:Nat) (j:Nat→Value):List Value:=([.agg (wA .i64 128 (pL n))] ++ (JU 22))
abbrev dByA_m (n:Nat):List Mb:= []
abbrev dByB_s (n:Nat) (j:Nat→Value):List Value:=([j 0,.pointer (some ⟨0,0,none⟩),.pointer (some ⟨1,0,none⟩)] ++ (J j 3 20))
abbrev dByB_m (n:Nat):List Mb:= [((wA .i64 128 (pL n)),(47,(0,0))),((wA .u8 16 []),(22,(0,0)))]
def dBy0p_h (i:Nat):Hn:=if i=5 then⟨13,[],[],[],[]⟩ else⟨0,[],[],[],[]⟩
def dBy0p_b (n:Nat) (j:Nat→Value):List Value:=([.agg (wA .i64 128 (pL n)),.pointer (some ⟨0,0,none⟩),.pointer (some ⟨1,0,none⟩)] ++ (JU 20))
theorem dBy0p_0 (n:Nat) (j:Nat→Value):evC (yty.en tabV0) dBy0p_h (cAt [0] (bdy Try.f29)) ⟨dByA_s n j,dByA_m n,True,[]⟩=some (.normal,⟨dBy0p_b n j,[((wA .i64 128 (pL n)),(47,(0,0))),((wA .u8 16 []),(22,(0,0)))],True,[]⟩):=by kernel_rfl
theorem dBy0 (n:Nat) (j:Nat→Value) (hn:n<2 ^ 128)  {c0:Prop} {ch0:List (Option Value)}:Runs Try.prog (cAt [0] (bdy Try.f29)) ⟨dByA_s n j,dByA_m n,c0,ch0⟩ (fun e s=>e= .normal∧∃(j:Nat→Value) (c:Prop) (ch:List (Option Value)),s=⟨dByB_s n j,dByB_m n,c,ch⟩) 0:=by
  refine(runs_ev mixed _ (dBy0p_0 n j) trivial).mono ?_
  rintro e s ⟨rfl,hs⟩
  refine⟨rfl,fun q=>s.tm.getD q undef,s.c,s.ch,?_⟩
  subst hs
  kernel_rfl
abbrev dByC_s (n:Nat) (j:Nat→Value):List Value:=([j 0,.pointer (some ⟨0,0,none⟩),.pointer (some ⟨1,0,none⟩),.pointer (some ⟨2,0,none⟩)] ++ (J j 4 19))
abbrev dByC_m (n:Nat):List Mb:= [((wA .i64 128 (pL n)),(47,(0,0))),((wA .u8 16 []),(22,(0,0))),((wA .u8 16 []),(22,(0,0)))]
def dBy1p_h (i:Nat):Hn:=if i=5 then⟨13,[],[],[],[]⟩ else⟨0,[],[],[],[]⟩
def dBy1p_b (n:Nat) (j:Nat→Value):List Value:=([j 0,.pointer (some ⟨0,0,none⟩),.pointer (some ⟨1,0,none⟩),.pointer (some ⟨2,0,none⟩)] ++ (J j 4 19))
theorem dBy1p_0 (n:Nat) (j:Nat→Value):evC (yty.en tabV0) dBy1p_h (cAt [1,0] (bdy Try.f29)) ⟨dByB_s n j,dByB_m n,True,[]⟩=some (.normal,⟨dBy1p_b n j,[((wA .i64 128 (pL n)),(47,(0,0))),((wA .u8 16 []),(22,(0,0))),((wA .u8 16 []),(22,(0,0)))],True,[]⟩):=by kernel_rfl
theorem dBy1 (n:Nat) (j:Nat→Value) (hn:n<2 ^ 128)  {c0:Prop} {ch0:List (Option Value)}:Runs Try.prog (cAt [1,0] (bdy Try.f29)) ⟨dByB_s n j,dByB_m n,c0,ch0⟩ (fun e s=>e= .normal∧∃(j:Nat→Value) (c:Prop) (ch:List (Option Value)),s=⟨dByC_s n j,dByC_m n,c,ch⟩) 0:=by
  refine(runs_ev mixed _ (dBy1p_0 n j) trivial).mono ?_
  rintro e s ⟨rfl,hs⟩
  refine⟨rfl,fun q=>s.tm.getD q undef,s.c,s.ch,?_⟩
  subst hs
  kernel_rfl
abbrev dByD_s (n:Nat) (d:Nat) (j:Nat→Value):List Value:=([j 0,.pointer (some ⟨0,0,none⟩),.pointer (some ⟨1,0,none⟩),.pointer (some ⟨2,0,none⟩),.int .i64 (127 - ((d:Nat):Int))] ++ (J j 5 18))
abbrev dByD_m (n:Nat) (d:Nat):List Mb:= [((wA .i64 128 (pL n)),(47,(0,0))),((wA .u8 16 []),(22,(0,0))),((wA .u8 16 (bBd n d)),(22,(0,0)))]
def dBy2p_h (i:Nat):Hn:=if i=5 then⟨13,[],[],[],[]⟩ else⟨0,[],[],[],[]⟩
def dBy2p_b (n:Nat) (j:Nat→Value):List Value:=([j 0,.pointer (some ⟨0,0,none⟩),.pointer (some ⟨1,0,none⟩),.pointer (some ⟨2,0,none⟩),.int .i64 127] ++ (J j 5 18))
theorem dBy2p_0 (n:Nat) (j:Nat→Value):evC (yty.en tabV0) dBy2p_h (cAt [1,1,0,0] (bdy Try.f29)) ⟨dByC_s n j,dByC_m n,True,[]⟩=some (.normal,⟨dBy2p_b n j,[((wA .i64 128 (pL n)),(47,(0,0))),((wA .u8 16 []),(22,(0,0))),((wA .u8 16 []),(22,(0,0)))],(True∧True),[]⟩):=by kernel_rfl
theorem dBy2 (n:Nat) (j:Nat→Value) (hn:n<2 ^ 128)  {c0:Prop} {ch0:List (Option Value)}:Runs Try.prog (cAt [1,1,0,0] (bdy Try.f29)) ⟨dByC_s n j,dByC_m n,c0,ch0⟩ (fun e s=>e= .normal∧∃(j:Nat→Value) (c:Prop) (ch:List (Option Value)),(0≤128)∧s=⟨dByD_s n 0 j,dByD_m n 0,c,ch⟩) 0:=by
  refine(runs_ev mixed _ (dBy2p_0 n j) ⟨trivial,trivial⟩).mono ?_
  rintro e s ⟨rfl,hs⟩
  refine⟨rfl,fun q=>s.tm.getD q undef,s.c,s.ch,by omega,?_⟩
  subst hs
  kernel_rfl
def dBy3p_h (i:Nat):Hn:=if i=5 then⟨13,[],[],[],[]⟩ else⟨0,[],[],[],[]⟩
def dBy3p_b (n:Nat) (d:Nat) (j:Nat→Value):List Value:=([j 0,.pointer (some ⟨0,0,none⟩),.pointer (some ⟨1,0,none⟩),.pointer (some ⟨2,0,none⟩),.int .i64 (127 - ((d+1:Nat):Int)),.int .i64 (127 - ((d:Nat):Int)),.bool true,.int .i64 (127 - ((d:Nat):Int)),.int .i64 (127 - ((d+1:Nat):Int)),.int .i64 (127 - ((d:Nat):Int)),.int .i64 (((127 - d) / 8:Nat):Int),.int .i64 (127 - ((d:Nat):Int)),.int .i64 (((127 - d) / 8:Nat):Int),.pointer (some ⟨2,0+Int.toNat (((127 - d) / 8:Nat):Int)*1,none⟩),.int .u8 ((bBd n d).getD ((127 - d) / 8) 0),.int .u8 (IntKind.u8.wrap (2*((bBd n d).getD ((127 - d) / 8) 0))),.int .i64 (127 - ((d:Nat):Int)),.pointer (some ⟨0,0+Int.toNat (127 - ((d:Nat):Int))*1,none⟩),.int .i64 (bti n (127 - d)),.int .u8 (IntKind.u8.wrap (bti n (127 - d))),.int .u8 (IntKind.u8.wrap ((IntKind.u8.wrap (2*((bBd n d).getD ((127 - d) / 8) 0)))+(IntKind.u8.wrap (bti n (127 - d))))),.pointer (some ⟨2,0+Int.toNat (((127 - d) / 8:Nat):Int)*1,none⟩),j 22])
theorem dBy3p_0 (n:Nat) (d:Nat) (j:Nat→Value):evC (yty.en tabV0) dBy3p_h (cAt [1,1,0,1,0,0] (bdy Try.f29)) ⟨dByD_s n d j,dByD_m n d,True,[some (.bool true),some (.int .i64 (((127 - d) / 8:Nat):Int)),some (.int .i64 (((127 - d) / 8:Nat):Int)),some (.int .u8 ((bBd n d).getD ((127 - d) / 8) 0)),none,some (.int .i64 (bti n (127 - d))),none,none,some (.agg (wA .u8 16 (bBd n (d+1)))),some (.int .i64 (127 - ((d+1:Nat):Int)))]⟩=some (.normal,⟨dBy3p_b n d j,[((wA .i64 128 (pL n)),(47,(0,0))),((wA .u8 16 []),(22,(0,0))),((wA .u8 16 (bBd n (d+1))),(22,(0,0)))],(((((((((((((((((((True∧True)∧(True∧(decide (0≤(127 - ((d:Nat):Int))))=true))∧True)∧(((8:Int)≠0)∧(IntKind.i64.wrap (Int.tdiv (127 - ((d:Nat):Int)) 8))=(((127 - d) / 8:Nat):Int)))∧True)∧(((8:Int)≠0)∧(IntKind.i64.wrap (Int.tdiv (127 - ((d:Nat):Int)) 8))=(((127 - d) / 8:Nat):Int)))∧(0≤(((127 - d) / 8:Nat):Int)∧(((127 - d) / 8:Nat):Int)<((16:Nat):Int)))∧(((wA .u8 16 (bBd n d))[(0+Int.toNat (((127 - d) / 8:Nat):Int)*1)]? =some (.int .u8 ((bBd n d).getD ((127 - d) / 8) 0)))∧((bBd n d).getD ((127 - d) / 8) 0)=((bBd n d).getD ((127 - d) / 8) 0)))∧True)∧True)∧(0≤(127 - ((d:Nat):Int))∧(127 - ((d:Nat):Int))<((128:Nat):Int)))∧(((wA .i64 128 (pL n))[(0+Int.toNat (127 - ((d:Nat):Int))*1)]? =some (.int .i64 (bti n (127 - d))))∧(bti n (127 - d))=(bti n (127 - d))))∧True)∧True)∧(0≤(((127 - d) / 8:Nat):Int)∧(((127 - d) / 8:Nat):Int)<((16:Nat):Int)))∧((0+Int.toNat (((127 - d) / 8:Nat):Int)*1)<(wA .u8 16 (bBd n d)).size∧(wA .u8 16 (bBd n d)).setIfInBounds (0+Int.toNat (((127 - d) / 8:Nat):Int)*1) (.int .u8 (IntKind.u8.wrap ((IntKind.u8.wrap (2*((bBd n d).getD ((127 - d) / 8) 0)))+(IntKind.u8.wrap (bti n (127 - d))))))=(wA .u8 16 (bBd n (d+1)))))∧True)∧(True∧(IntKind.i64.wrap ((127 - ((d:Nat):Int)) - 1))=(127 - ((d+1:Nat):Int))))∧True),[]⟩):=by kernel_rfl
theorem dBy3 (n:Nat) (d:Nat) (j:Nat→Value) (hn:n<2 ^ 128) (hd:d≤128) (hlt:d<128) {c0:Prop} {ch0:List (Option Value)}:Runs Try.prog (cAt [1,1,0,1,0,0] (bdy Try.f29)) ⟨dByD_s n d j,dByD_m n d,c0,ch0⟩ (fun e s=>e= .normal∧∃(j:Nat→Value) (c:Prop) (ch:List (Option Value)),((d+1)≤128)∧s=⟨dByD_s n (d+1) j,dByD_m n (d+1),c,ch⟩) 0:=by
  have h0:(decide (0≤(127 - ((d:Nat):Int))))=true:=(decide_eq_true (by omega))
  refine(runs_ev mixed _ (dBy3p_0 n d j) ⟨⟨⟨⟨⟨⟨⟨⟨⟨⟨⟨⟨⟨⟨⟨⟨⟨⟨⟨trivial,trivial⟩,⟨trivial,h0⟩⟩,trivial⟩,⟨(by decide),(by rw[show(127 - ((d:Nat):Int))=((127 - d:Nat):Int) by omega,show(8:Int)=((8:Nat):Int) from rfl,tdivN_i64 _ _ (by omega)])⟩⟩,trivial⟩,⟨(by decide),(by rw[show(127 - ((d:Nat):Int))=((127 - d:Nat):Int) by omega,show(8:Int)=((8:Nat):Int) from rfl,tdivN_i64 _ _ (by omega)])⟩⟩,(by(try simp only[Int.toNat_natCast,wA_size]);omega)⟩,⟨(wA_get (by omega) (by omega)),rfl⟩⟩,trivial⟩,trivial⟩,(by(try simp only[Int.toNat_natCast,wA_size]);omega)⟩,⟨(by rw[show 0+Int.toNat (127 - ((d:Nat):Int))*1=127 - d by omega,wA_at (by omega),pL_at (by omega)]),rfl⟩⟩,trivial⟩,trivial⟩,(by(try simp only[Int.toNat_natCast,wA_size]);omega)⟩,bB_put3 hn hlt (by rw[Int.toNat_natCast];omega)⟩,trivial⟩,⟨trivial,(by rw[IntKind.wrap_i64];omega)⟩⟩,trivial⟩).mono ?_
  rintro e s ⟨rfl,hs⟩
  refine⟨rfl,fun q=>s.tm.getD q undef,s.c,s.ch,by omega,?_⟩
  subst hs
  kernel_rfl
abbrev dByE_s (n:Nat) (d:Nat) (j:Nat→Value):List Value:=([j 0,.pointer (some ⟨0,0,none⟩),.pointer (some ⟨1,0,none⟩),.pointer (some ⟨2,0,none⟩)] ++ (J j 4 19))
abbrev dByE_m (n:Nat) (d:Nat):List Mb:= [((wA .i64 128 (pL n)),(47,(0,0))),((wA .u8 16 []),(22,(0,0))),((wA .u8 16 (eL n)),(22,(0,0)))]
def dBy4p_h (i:Nat):Hn:=if i=5 then⟨13,[],[],[],[]⟩ else⟨0,[],[],[],[]⟩
def dBy4p_b (n:Nat) (d:Nat) (j:Nat→Value):List Value:=([j 0,.pointer (some ⟨0,0,none⟩),.pointer (some ⟨1,0,none⟩),.pointer (some ⟨2,0,none⟩),.int .i64 (127 - ((d:Nat):Int)),.int .i64 (127 - ((d:Nat):Int)),.bool false] ++ (J j 7 16))
theorem dBy4p_0 (n:Nat) (d:Nat) (j:Nat→Value):evC (yty.en tabV0) dBy4p_h (cAt [1,1,0,1,0,0] (bdy Try.f29)) ⟨dByD_s n d j,dByD_m n d,True,[some (.bool false)]⟩=some ((.exit 0),⟨dBy4p_b n d j,[((wA .i64 128 (pL n)),(47,(0,0))),((wA .u8 16 []),(22,(0,0))),((wA .u8 16 (bBd n d)),(22,(0,0)))],((True∧True)∧(True∧(decide (0≤(127 - ((d:Nat):Int))))=false)),[]⟩):=by kernel_rfl
theorem dBy4 (n:Nat) (d:Nat) (j:Nat→Value) (hn:n<2 ^ 128) (hd:d≤128) (hge:¬ d<128) {c0:Prop} {ch0:List (Option Value)}:Runs Try.prog (cAt [1,1,0,1,0,0] (bdy Try.f29)) ⟨dByD_s n d j,dByD_m n d,c0,ch0⟩ (fun e s=>e=(.exit 0)∧∃(j:Nat→Value) (c:Prop) (ch:List (Option Value)),s=⟨dByE_s n d j,dByE_m n d,c,ch⟩) 0:=by
  have h0:(decide (0≤(127 - ((d:Nat):Int))))=false:=(decide_eq_false (by omega))
  refine(runs_ev mixed _ (dBy4p_0 n d j) ⟨⟨trivial,trivial⟩,⟨trivial,h0⟩⟩).mono ?_
  rintro e s ⟨rfl,hs⟩
  refine⟨rfl,fun q=>s.tm.getD q undef,s.c,s.ch,?_⟩
  subst hs
  rw[(bBd_eq hn d).1,show 128 - d=0 by omega,bB_end]
  kernel_rfl
theorem dBy5L (n:Nat) (j:Nat→Value) (hn:n<2 ^ 128) (ihd:0≤128)  {c0:Prop} {ch0:List (Option Value)}:Runs Try.prog (.loop (cAt [1,1,0,1,0,0] (bdy Try.f29))) ⟨dByD_s n 0 j,dByD_m n 0,c0,ch0⟩ (fun e s=>e= .exit 0∧∃(d:Nat) (j:Nat→Value) (c:Prop) (ch:List (Option Value)),s=⟨dByE_s n d j,dByE_m n d,c,ch⟩) 0:=by
  refine runs_loop (fun M s=>∃(d:Nat) (j:Nat→Value) (c:Prop) (ch:List (Option Value)),(d≤128)∧M=128 - d∧s=⟨dByD_s n d j,dByD_m n d,c,ch⟩) (128 - 0) ⟨0,j,c0,ch0,ihd,rfl,rfl⟩ ?_
  rintro M s ⟨d,j,c,ch,hd,rfl,rfl⟩
  by_cases hlt:d<128
  · skip
    refine(dBy3 n d j hn hd hlt).mono ?_
    rintro e s ⟨rfl,j,c,ch,f1,rfl⟩
    exact .inl ⟨rfl,128 - (d+1),by omega,⟨(d+1),j,c,ch,f1,rfl,rfl⟩⟩
  · refine (dBy4 n d j hn hd hlt).mono ?_
    intro e s hh
    obtain⟨rfl,j,c,ch,rfl⟩:=hh
    exact .inr ⟨by simp,rfl,d,j,c,ch,rfl⟩
theorem dBy5 (n:Nat) (j:Nat→Value) (hn:n<2 ^ 128) (ihd:0≤128)  {c0:Prop} {ch0:List (Option Value)}:Runs Try.prog (cAt [1,1,0,1] (bdy Try.f29)) ⟨dByD_s n 0 j,dByD_m n 0,c0,ch0⟩ (fun e s=>e= .normal∧∃(d:Nat) (j:Nat→Value) (c:Prop) (ch:List (Option Value)),s=⟨dByE_s n d j,dByE_m n d,c,ch⟩) 0:=by
  rw[show(cAt [1,1,0,1] (bdy Try.f29))= .block 0 (.loop (cAt [1,1,0,1,0,0] (bdy Try.f29))) from by kernel_rfl]
  refine runs_block (dBy5L n j hn ihd ) ?_
  rintro e s ⟨rfl,hh⟩
  exact .inl ⟨rfl,rfl,hh⟩
theorem dBy6 (n:Nat) (j:Nat→Value) (hn:n<2 ^ 128)  {c0:Prop} {ch0:List (Option Value)}:Runs Try.prog (cAt [1,1,0] (bdy Try.f29)) ⟨dByC_s n j,dByC_m n,c0,ch0⟩ (fun e s=>e= .normal∧∃(d1:Nat) (j:Nat→Value) (c:Prop) (ch:List (Option Value)),s=⟨dByE_s n d1 j,dByE_m n d1,c,ch⟩) 0:=by
  rw[show(cAt [1,1,0] (bdy Try.f29))=(.seq (cAt [1,1,0,0] (bdy Try.f29)) (cAt [1,1,0,1] (bdy Try.f29))) from by kernel_rfl]
  refine runs_seq (dBy2 n j hn ) (fun s hh=> ?_) (fun e s hne hh=>absurd hh.1 hne)
  obtain⟨_,j,c,ch,f0_1,rfl⟩:=hh
  refine(dBy5 n j hn f0_1 ).mono ?_
  rintro e s ⟨rfl,d1,j,c,ch,rfl⟩
  exact⟨rfl,d1,j,c,ch,rfl⟩
abbrev dByF_s (n:Nat) (d:Nat) (j:Nat→Value):List Value:=([j 0,j 1,.pointer (some ⟨1,0,none⟩)] ++ (J j 3 20))
abbrev dByF_m (n:Nat) (d:Nat):List Mb:= [((wA .i64 128 (pL n)),(47,(0,0))),((wA .u8 16 (eL n)),(22,(0,0))),((wA .u8 16 (eL n)),(22,(0,0)))]
def dBy7p_h (i:Nat):Hn:=if i=5 then⟨13,[],[],[],[]⟩ else⟨0,[],[],[],[]⟩
def dBy7p_b (n:Nat) (d:Nat) (j:Nat→Value):List Value:=([j 0,.pointer (some ⟨0,0,none⟩),.pointer (some ⟨1,0,none⟩),.pointer (some ⟨2,0,none⟩)] ++ (J j 4 18 ++ ([.agg (wA .u8 16 (eL n))])))
theorem dBy7p_0 (n:Nat) (d:Nat) (j:Nat→Value):evC (yty.en tabV0) dBy7p_h (cAt [1,1,1] (bdy Try.f29)) ⟨dByE_s n d j,dByE_m n d,True,[]⟩=some (.ret,⟨dBy7p_b n d j,[((wA .i64 128 (pL n)),(47,(0,0))),((wA .u8 16 (eL n)),(22,(0,0))),((wA .u8 16 (eL n)),(22,(0,0)))],((True∧True)∧((wA .u8 16 (eL n)).all (fun v=>v.oneCell')=true)),[]⟩):=by kernel_rfl
theorem dBy7 (n:Nat) (d:Nat) (j:Nat→Value) (hn:n<2 ^ 128)  {c0:Prop} {ch0:List (Option Value)}:Runs Try.prog (cAt [1,1,1] (bdy Try.f29)) ⟨dByE_s n d j,dByE_m n d,c0,ch0⟩ (fun e s=>e= .ret∧∃(j:Nat→Value) (c:Prop) (ch:List (Option Value)),s=⟨dByF_s n d j,dByF_m n d,c,ch⟩) 0:=by
  refine(runs_ev mixed _ (dBy7p_0 n d j) ⟨⟨trivial,trivial⟩,(wA_one _ _ _)⟩).mono ?_
  rintro e s ⟨rfl,hs⟩
  refine⟨rfl,fun q=>s.tm.getD q undef,s.c,s.ch,?_⟩
  subst hs
  kernel_rfl
theorem dByu (n:Nat) (j:Nat→Value) (hn:n<2 ^ 128)  {c0:Prop} {ch0:List (Option Value)}:Runs Try.prog (cAt [] (bdy Try.f29)) ⟨dByA_s n j,dByA_m n,c0,ch0⟩ (fun e s=>e= .ret∧∃(d12:Nat) (j:Nat→Value) (c:Prop) (ch:List (Option Value)),s=⟨dByF_s n d12 j,dByF_m n d12,c,ch⟩) 0:=by
  rw[show(cAt [] (bdy Try.f29))=(.seq (cAt [0] (bdy Try.f29)) (.seq (cAt [1,0] (bdy Try.f29)) (.seq (cAt [1,1,0] (bdy Try.f29)) (cAt [1,1,1] (bdy Try.f29))))) from by kernel_rfl]
  refine runs_seq (dBy0 n j hn ) (fun s hh=> ?_) (fun e s hne hh=>absurd hh.1 hne)
  obtain⟨_,j,c,ch,rfl⟩:=hh
  refine runs_seq (dBy1 n j hn ) (fun s hh=> ?_) (fun e s hne hh=>absurd hh.1 hne)
  obtain⟨_,j,c,ch,rfl⟩:=hh
  refine runs_seq (dBy6 n j hn ) (fun s hh=> ?_) (fun e s hne hh=>absurd hh.1 hne)
  obtain⟨_,d12,j,c,ch,rfl⟩:=hh
  refine(dBy7 n d12 j hn ).mono ?_
  rintro e s ⟨rfl,j,c,ch,rfl⟩
  exact⟨rfl,d12,j,c,ch,rfl⟩
theorem dBy_c (n:Nat) (hn:n<2 ^ 128):Pure Try.prog 29 #[.agg (wA .i64 128 (pL n))] (.agg (wA .u8 16 (eL n))):=by
  refine pure_runs (E:=(yty.en tabV0)) Try.func29 (c:=bdy Try.f29) (by kernel_rfl) (args:= [.agg (wA .i64 128 (pL n))]) (by kernel_rfl) (K:=fun e s=>e= .ret∧resS (yty.en tabV0) s Try.f29.results.toList=some [.agg (wA .u8 16 (eL n))]) ?_ (fun e s h=>⟨h.1,_,h.2,rfl⟩)
  refine(dByu n (fun _=>undef) hn).mono ?_
  rintro e s ⟨rfl,d,j,c,ch,rfl⟩
  exact⟨rfl,by kernel_rfl⟩
theorem nL_w (L:List Int):nL (dL8 (wA .u8 16 L))=nL L:=nL_of fun i hi=>by rw[dL8_wA,if_pos hi]
theorem pq {n:Nat} (h:n<2 ^ 128):wA .i64 128 (pL n)=wA .i64 128 (pL (dP (wA .i64 128 (pL n))))∧dP (wA .i64 128 (pL n))<2 ^ 128:=by
  rw[dP_pL h]
  exact⟨rfl,h⟩
def dpo:Entry Try.prog:=entL Try.func27 (by kernel_rfl) (by kernel_rfl) 16 (fun L=> .agg (wA .i64 128 (pL (nL L)))) (fun L h=>dPo_c L h)
def dtm : Entry Try.prog where
  f:=28
  g:=fun _ xs=>match xs with| [.agg a,.agg b]=>some (.agg (wA .i64 128 (pL (tmN (dP a) (dP b)))),((a=wA .i64 128 (pL (dP a))∧dP a<2 ^ 128)∧(b=wA .i64 128 (pL (dP b))∧dP b<2 ^ 128)))|_=>none
  ok := fun _ xs u c e hc w β _ _ => by
    split at e
    · simp only [Option.some.injEq, Prod.mk.injEq] at e
      obtain⟨rfl,rfl⟩:=e
      have:=dTm_c _ _ hc.1.2 hc.2.2 w
      rw[← hc.1.1,← hc.2.1] at this
      exact this
    · cases e
  call:=call_of Try.func28 (by kernel_rfl) (by kernel_rfl)
def dby : Entry Try.prog where
  f:=29
  g:=fun _ xs=>match xs with| [.agg a]=>some (.agg (wA .u8 16 (eL (dP a))),(a=wA .i64 128 (pL (dP a))∧dP a<2 ^ 128))|_=>none
  ok := fun _ xs u c e hc w β _ _ => by
    split at e
    · simp only [Option.some.injEq, Prod.mk.injEq] at e
      obtain⟨rfl,rfl⟩:=e
      have:=dBy_c _ hc.2 w
      rw[← hc.1] at this
      exact this
    · cases e
  call:=call_of Try.func29 (by kernel_rfl) (by kernel_rfl)
def tabY1:List (Entry Try.prog):=dpo :: dtm :: dby :: []
abbrev dDoA_s (A B:List Int) (j:Nat→Value):List Value:=([.agg (wA .u8 16 A),.agg (wA .u8 16 B)] ++ (JU 50))
abbrev dDoA_m (A B:List Int):List Mb:= []
abbrev dDoB_s (A B:List Int) (j:Nat→Value):List Value:=([j 0,j 1,.pointer (some ⟨0,0,none⟩),.pointer (some ⟨1,0,none⟩),.pointer (some ⟨2,0,none⟩)] ++ (J j 5 47))
abbrev dDoB_m (A B:List Int):List Mb:= [((wA .u8 16 A),(22,(0,0))),((wA .u8 16 B),(22,(0,0))),((wA .u8 16 []),(22,(0,0)))]
def dDo0p_h (i:Nat):Hn:=if i=1 then⟨6,[],[],[],[]⟩ else⟨0,[],[],[],[]⟩
def dDo0p_b (A B:List Int) (j:Nat→Value):List Value:=([.agg (wA .u8 16 A),.agg (wA .u8 16 B),.pointer (some ⟨0,0,none⟩),.pointer (some ⟨1,0,none⟩),.pointer (some ⟨2,0,none⟩)] ++ (JU 47))
theorem dDo0p_0 (A B:List Int) (j:Nat→Value):evC (yty.en tabY1) dDo0p_h (cAt [0] (bdy Try.f10)) ⟨dDoA_s A B j,dDoA_m A B,True,[]⟩=some (.normal,⟨dDo0p_b A B j,[((wA .u8 16 A),(22,(0,0))),((wA .u8 16 B),(22,(0,0))),((wA .u8 16 []),(22,(0,0)))],True,[]⟩):=by kernel_rfl
theorem dDo0 (A B:List Int) (j:Nat→Value) (hA:By A) (hB:By B)  {c0:Prop} {ch0:List (Option Value)}:Runs Try.prog (cAt [0] (bdy Try.f10)) ⟨dDoA_s A B j,dDoA_m A B,c0,ch0⟩ (fun e s=>e= .normal∧∃(j:Nat→Value) (c:Prop) (ch:List (Option Value)),s=⟨dDoB_s A B j,dDoB_m A B,c,ch⟩) 0:=by
  refine(runs_ev mixed _ (dDo0p_0 A B j) trivial).mono ?_
  rintro e s ⟨rfl,hs⟩
  refine⟨rfl,fun q=>s.tm.getD q undef,s.c,s.ch,?_⟩
  subst hs
  kernel_rfl
abbrev dDoC_s (A B:List Int) (p:Nat) (j:Nat→Value):List Value:=(J j 0 4 ++ ([.pointer (some ⟨2,0,none⟩),.pointer (some ⟨3,0,none⟩)] ++ (J j 6 46)))
abbrev dDoC_m (A B:List Int) (p:Nat):List Mb:= [((wA .u8 16 A),(22,(0,0))),((wA .u8 16 B),(22,(0,0))),((wA .u8 16 []),(22,(0,0))),((wA .i64 128 (pL p)),(47,(0,0)))]
def dDo1p_h (i:Nat):Hn:=if i=1 then⟨6,[],[],[],[]⟩ else⟨0,[],[],[],[]⟩
def dDo1p_b (A B:List Int) (j:Nat→Value):List Value:=([j 0,j 1,.pointer (some ⟨0,0,none⟩),.pointer (some ⟨1,0,none⟩),.pointer (some ⟨2,0,none⟩),.pointer (some ⟨3,0,none⟩)] ++ (J j 6 4 ++ ([.agg (wA .u8 16 A),.agg (wA .i64 128 (pL (nL (dL8 (wA .u8 16 A))))),.agg (wA .u8 16 B),.agg (wA .i64 128 (pL (nL (dL8 (wA .u8 16 B))))),.agg (wA .i64 128 (pL (tmN (dP (wA .i64 128 (pL (nL (dL8 (wA .u8 16 A)))))) (dP (wA .i64 128 (pL (nL (dL8 (wA .u8 16 B)))))))))] ++ (J j 15 37))))
theorem dDo1p_0 (A B:List Int) (j:Nat→Value):evC (yty.en tabY1) dDo1p_h (cAt [1,0] (bdy Try.f10)) ⟨dDoB_s A B j,dDoB_m A B,True,[]⟩=some (.normal,⟨dDo1p_b A B j,[((wA .u8 16 A),(22,(0,0))),((wA .u8 16 B),(22,(0,0))),((wA .u8 16 []),(22,(0,0))),((wA .i64 128 (pL (tmN (dP (wA .i64 128 (pL (nL (dL8 (wA .u8 16 A)))))) (dP (wA .i64 128 (pL (nL (dL8 (wA .u8 16 B))))))))),(47,(0,0)))],((((((True∧True)∧((wA .u8 16 A)=wA .u8 16 (dL8 (wA .u8 16 A))∧By (dL8 (wA .u8 16 A))))∧True)∧((wA .u8 16 B)=wA .u8 16 (dL8 (wA .u8 16 B))∧By (dL8 (wA .u8 16 B))))∧(((wA .i64 128 (pL (nL (dL8 (wA .u8 16 A)))))=wA .i64 128 (pL (dP (wA .i64 128 (pL (nL (dL8 (wA .u8 16 A)))))))∧dP (wA .i64 128 (pL (nL (dL8 (wA .u8 16 A)))))<2 ^ 128)∧((wA .i64 128 (pL (nL (dL8 (wA .u8 16 B)))))=wA .i64 128 (pL (dP (wA .i64 128 (pL (nL (dL8 (wA .u8 16 B)))))))∧dP (wA .i64 128 (pL (nL (dL8 (wA .u8 16 B)))))<2 ^ 128)))∧((wA .i64 128 (pL (tmN (dP (wA .i64 128 (pL (nL (dL8 (wA .u8 16 A)))))) (dP (wA .i64 128 (pL (nL (dL8 (wA .u8 16 B))))))))).all (fun v=>v.oneCell')=true)),[]⟩):=by kernel_rfl
theorem dDo1 (A B:List Int) (j:Nat→Value) (hA:By A) (hB:By B)  {c0:Prop} {ch0:List (Option Value)}:Runs Try.prog (cAt [1,0] (bdy Try.f10)) ⟨dDoB_s A B j,dDoB_m A B,c0,ch0⟩ (fun e s=>e= .normal∧∃(j:Nat→Value) (c:Prop) (ch:List (Option Value)),((tmN (dP (wA .i64 128 (pL (nL (dL8 (wA .u8 16 A)))))) (dP (wA .i64 128 (pL (nL (dL8 (wA .u8 16 B)))))))=(tmN (nL A) (nL B)))∧((tmN (dP (wA .i64 128 (pL (nL (dL8 (wA .u8 16 A)))))) (dP (wA .i64 128 (pL (nL (dL8 (wA .u8 16 B)))))))<2 ^ 128)∧s=⟨dDoC_s A B (tmN (dP (wA .i64 128 (pL (nL (dL8 (wA .u8 16 A)))))) (dP (wA .i64 128 (pL (nL (dL8 (wA .u8 16 B))))))) j,dDoC_m A B (tmN (dP (wA .i64 128 (pL (nL (dL8 (wA .u8 16 A)))))) (dP (wA .i64 128 (pL (nL (dL8 (wA .u8 16 B))))))),c,ch⟩) 0:=by
  refine(runs_ev mixed _ (dDo1p_0 A B j) ⟨⟨⟨⟨⟨⟨trivial,trivial⟩,dq hA⟩,trivial⟩,dq hB⟩,⟨pq (nL_lt (by_dL8 hA)),pq (nL_lt (by_dL8 hB))⟩⟩,(wA_one _ _ _)⟩).mono ?_
  rintro e s ⟨rfl,hs⟩
  refine⟨rfl,fun q=>s.tm.getD q undef,s.c,s.ch,by rw[dP_pL (nL_lt (by_dL8 hA)),dP_pL (nL_lt (by_dL8 hB)),nL_w,nL_w],tmN_lt _ _,?_⟩
  subst hs
  kernel_rfl
abbrev dDoD_s (A B:List Int) (i p:Nat) (j:Nat→Value):List Value:=(J j 0 4 ++ ([.pointer (some ⟨2,0,none⟩),.pointer (some ⟨3,0,none⟩),.int .i64 ((i:Nat):Int)] ++ (J j 7 45)))
abbrev dDoD_m (A B:List Int) (i p:Nat):List Mb:= [((wA .u8 16 A),(22,(0,0))),((wA .u8 16 B),(22,(0,0))),((wA .u8 16 []),(22,(0,0))),((wA .i64 128 (pL p)),(47,(0,0)))]
def dDo2p_h (i:Nat):Hn:=if i=1 then⟨6,[],[],[],[]⟩ else⟨0,[],[],[],[]⟩
def dDo2p_b (A B:List Int) (p:Nat) (j:Nat→Value):List Value:=(J j 0 4 ++ ([.pointer (some ⟨2,0,none⟩),.pointer (some ⟨3,0,none⟩),.int .i64 0] ++ (J j 7 45)))
theorem dDo2p_0 (A B:List Int) (p:Nat) (j:Nat→Value):evC (yty.en tabY1) dDo2p_h (cAt [1,1,0,0] (bdy Try.f10)) ⟨dDoC_s A B p j,dDoC_m A B p,True,[]⟩=some (.normal,⟨dDo2p_b A B p j,[((wA .u8 16 A),(22,(0,0))),((wA .u8 16 B),(22,(0,0))),((wA .u8 16 []),(22,(0,0))),((wA .i64 128 (pL p)),(47,(0,0)))],(True∧True),[]⟩):=by kernel_rfl
theorem dDo2 (A B:List Int) (p:Nat) (j:Nat→Value) (hA:By A) (hB:By B) (hp:p=(tmN (nL A) (nL B))) (hl:p<2 ^ 128)  {c0:Prop} {ch0:List (Option Value)}:Runs Try.prog (cAt [1,1,0,0] (bdy Try.f10)) ⟨dDoC_s A B p j,dDoC_m A B p,c0,ch0⟩ (fun e s=>e= .normal∧∃(j:Nat→Value) (c:Prop) (ch:List (Option Value)),(p=fI 0 (tmN (nL A) (nL B)))∧(0≤128)∧s=⟨dDoD_s A B 0 p j,dDoD_m A B 0 p,c,ch⟩) 0:=by
  refine(runs_ev mixed _ (dDo2p_0 A B p j) ⟨trivial,trivial⟩).mono ?_
  rintro e s ⟨rfl,hs⟩
  refine⟨rfl,fun q=>s.tm.getD q undef,s.c,s.ch,hp,by omega,?_⟩
  subst hs
  kernel_rfl
abbrev dDoE_s (A B:List Int) (i p:Nat) (j:Nat→Value):List Value:=(J j 0 4 ++ ([.pointer (some ⟨2,0,none⟩),.pointer (some ⟨3,0,none⟩),.int .i64 ((i:Nat):Int)] ++ (J j 7 45)))
abbrev dDoE_m (A B:List Int) (i p:Nat):List Mb:= [((wA .u8 16 A),(22,(0,0))),((wA .u8 16 B),(22,(0,0))),((wA .u8 16 []),(22,(0,0))),((wA .i64 128 (pL p)),(47,(0,0)))]
def dDo3p_h (i:Nat):Hn:=if i=1 then⟨6,[],[],[],[]⟩ else⟨0,[],[],[],[]⟩
def dDo3p_b (A B:List Int) (i p:Nat) (j:Nat→Value):List Value:=(J j 0 4 ++ ([.pointer (some ⟨2,0,none⟩),.pointer (some ⟨3,0,none⟩),.int .i64 ((i:Nat):Int)] ++ (J j 7 8 ++ ([.int .i64 ((i:Nat):Int),.bool true] ++ (J j 17 35)))))
theorem dDo3p_0 (A B:List Int) (i p:Nat) (j:Nat→Value):evC (yty.en tabY1) dDo3p_h (cAt [1,1,0,1,0,0,0] (bdy Try.f10)) ⟨dDoD_s A B i p j,dDoD_m A B i p,True,[some (.bool true)]⟩=some (.normal,⟨dDo3p_b A B i p j,[((wA .u8 16 A),(22,(0,0))),((wA .u8 16 B),(22,(0,0))),((wA .u8 16 []),(22,(0,0))),((wA .i64 128 (pL p)),(47,(0,0)))],((True∧True)∧(True∧(decide (((i:Nat):Int)<128))=true)),[]⟩):=by kernel_rfl
theorem dDo3 (A B:List Int) (i p:Nat) (j:Nat→Value) (hA:By A) (hB:By B) (hp:p=fI i (tmN (nL A) (nL B))) (hl:p<2 ^ 128) (hi:i≤128) (hlt:i<128) {c0:Prop} {ch0:List (Option Value)}:Runs Try.prog (cAt [1,1,0,1,0,0,0] (bdy Try.f10)) ⟨dDoD_s A B i p j,dDoD_m A B i p,c0,ch0⟩ (fun e s=>e= .normal∧∃(j:Nat→Value) (c:Prop) (ch:List (Option Value)),(i<128)∧s=⟨dDoE_s A B i p j,dDoE_m A B i p,c,ch⟩) 0:=by
  have h0:(decide (((i:Nat):Int)<128))=true:=(decide_eq_true (by omega))
  refine(runs_ev mixed _ (dDo3p_0 A B i p j) ⟨⟨trivial,trivial⟩,⟨trivial,h0⟩⟩).mono ?_
  rintro e s ⟨rfl,hs⟩
  refine⟨rfl,fun q=>s.tm.getD q undef,s.c,s.ch,hlt,?_⟩
  subst hs
  kernel_rfl
abbrev dDoF_s (A B:List Int) (i p:Nat) (j:Nat→Value):List Value:=(J j 0 4 ++ ([.pointer (some ⟨2,0,none⟩),.pointer (some ⟨3,0,none⟩),.int .i64 ((i:Nat):Int),.int .i64 ((pL p).getD 0 0)] ++ (J j 8 44)))
abbrev dDoF_m (A B:List Int) (i p:Nat):List Mb:= [((wA .u8 16 A),(22,(0,0))),((wA .u8 16 B),(22,(0,0))),((wA .u8 16 []),(22,(0,0))),((wA .i64 128 (pL p)),(47,(0,0)))]
def dDo4p_h (i:Nat):Hn:=if i=1 then⟨6,[],[],[],[]⟩ else⟨0,[],[],[],[]⟩
def dDo4p_b (A B:List Int) (i p:Nat) (j:Nat→Value):List Value:=(J j 0 4 ++ ([.pointer (some ⟨2,0,none⟩),.pointer (some ⟨3,0,none⟩),.int .i64 ((i:Nat):Int),.int .i64 ((pL p).getD 0 0)] ++ (J j 8 11 ++ ([.pointer (some ⟨3,0,none⟩),.int .i64 ((pL p).getD 0 0)] ++ (J j 21 31)))))
theorem dDo4p_0 (A B:List Int) (i p:Nat) (j:Nat→Value):evC (yty.en tabY1) dDo4p_h (cAt [1,1,0,1,0,0,1,0,0,0] (bdy Try.f10)) ⟨dDoE_s A B i p j,dDoE_m A B i p,True,[some (.int .i64 ((pL p).getD 0 0))]⟩=some (.normal,⟨dDo4p_b A B i p j,[((wA .u8 16 A),(22,(0,0))),((wA .u8 16 B),(22,(0,0))),((wA .u8 16 []),(22,(0,0))),((wA .i64 128 (pL p)),(47,(0,0)))],(((True∧((0:Int)≤0∧(0:Int)<((128:Nat):Int)))∧(((wA .i64 128 (pL p))[0]? =some (.int .i64 ((pL p).getD 0 0)))∧((pL p).getD 0 0)=((pL p).getD 0 0)))∧True),[]⟩):=by kernel_rfl
theorem dDo4 (A B:List Int) (i p:Nat) (j:Nat→Value) (hA:By A) (hB:By B) (hp:p=fI i (tmN (nL A) (nL B))) (hl:p<2 ^ 128) (hi:i≤128) (hi1:i<128)  {c0:Prop} {ch0:List (Option Value)}:Runs Try.prog (cAt [1,1,0,1,0,0,1,0,0,0] (bdy Try.f10)) ⟨dDoE_s A B i p j,dDoE_m A B i p,c0,ch0⟩ (fun e s=>e= .normal∧∃(j:Nat→Value) (c:Prop) (ch:List (Option Value)),s=⟨dDoF_s A B i p j,dDoF_m A B i p,c,ch⟩) 0:=by
  refine(runs_ev mixed _ (dDo4p_0 A B i p j) ⟨⟨⟨trivial,⟨by decide,by decide⟩⟩,⟨(wA_get (by omega) (by omega)),rfl⟩⟩,trivial⟩).mono ?_
  rintro e s ⟨rfl,hs⟩
  refine⟨rfl,fun q=>s.tm.getD q undef,s.c,s.ch,?_⟩
  subst hs
  kernel_rfl
abbrev dDoG_s (A B:List Int) (i p:Nat) (j:Nat→Value):List Value:=(J j 0 4 ++ ([.pointer (some ⟨2,0,none⟩),.pointer (some ⟨3,0,none⟩),.int .i64 ((i:Nat):Int),.int .i64 ((pL p).getD 0 0),.pointer (some ⟨4,0,none⟩)] ++ (J j 9 43)))
abbrev dDoG_m (A B:List Int) (i p:Nat):List Mb:= [((wA .u8 16 A),(22,(0,0))),((wA .u8 16 B),(22,(0,0))),((wA .u8 16 []),(22,(0,0))),((wA .i64 128 (pL p)),(47,(0,0))),((wA .i64 128 []),(47,(0,0)))]
def dDo5p_h (i:Nat):Hn:=if i=1 then⟨6,[],[],[],[]⟩ else⟨0,[],[],[],[]⟩
def dDo5p_b (A B:List Int) (i p:Nat) (j:Nat→Value):List Value:=(J j 0 4 ++ ([.pointer (some ⟨2,0,none⟩),.pointer (some ⟨3,0,none⟩),.int .i64 ((i:Nat):Int),.int .i64 ((pL p).getD 0 0),.pointer (some ⟨4,0,none⟩)] ++ (J j 9 43)))
theorem dDo5p_0 (A B:List Int) (i p:Nat) (j:Nat→Value):evC (yty.en tabY1) dDo5p_h (cAt [1,1,0,1,0,0,1,0,0,1,0] (bdy Try.f10)) ⟨dDoF_s A B i p j,dDoF_m A B i p,True,[]⟩=some (.normal,⟨dDo5p_b A B i p j,[((wA .u8 16 A),(22,(0,0))),((wA .u8 16 B),(22,(0,0))),((wA .u8 16 []),(22,(0,0))),((wA .i64 128 (pL p)),(47,(0,0))),((wA .i64 128 []),(47,(0,0)))],True,[]⟩):=by kernel_rfl
theorem dDo5 (A B:List Int) (i p:Nat) (j:Nat→Value) (hA:By A) (hB:By B) (hp:p=fI i (tmN (nL A) (nL B))) (hl:p<2 ^ 128) (hi:i≤128) (hi1:i<128)  {c0:Prop} {ch0:List (Option Value)}:Runs Try.prog (cAt [1,1,0,1,0,0,1,0,0,1,0] (bdy Try.f10)) ⟨dDoF_s A B i p j,dDoF_m A B i p,c0,ch0⟩ (fun e s=>e= .normal∧∃(j:Nat→Value) (c:Prop) (ch:List (Option Value)),s=⟨dDoG_s A B i p j,dDoG_m A B i p,c,ch⟩) 0:=by
  refine(runs_ev mixed _ (dDo5p_0 A B i p j) trivial).mono ?_
  rintro e s ⟨rfl,hs⟩
  refine⟨rfl,fun q=>s.tm.getD q undef,s.c,s.ch,?_⟩
  subst hs
  kernel_rfl
abbrev dDoH_s (A B:List Int) (i p:Nat) (k:Nat) (j:Nat→Value):List Value:=(J j 0 4 ++ ([.pointer (some ⟨2,0,none⟩),.pointer (some ⟨3,0,none⟩),.int .i64 ((i:Nat):Int),.int .i64 ((pL p).getD 0 0),.pointer (some ⟨4,0,none⟩),.int .i64 ((k:Nat):Int)] ++ (J j 10 42)))
abbrev dDoH_m (A B:List Int) (i p:Nat) (k:Nat):List Mb:= [((wA .u8 16 A),(22,(0,0))),((wA .u8 16 B),(22,(0,0))),((wA .u8 16 []),(22,(0,0))),((wA .i64 128 (pL p)),(47,(0,0))),((wA .i64 128 (pL (zm (p / 2) k))),(47,(0,0)))]
def dDo6p_h (i:Nat):Hn:=if i=1 then⟨6,[],[],[],[]⟩ else⟨0,[],[],[],[]⟩
def dDo6p_b (A B:List Int) (i p:Nat) (j:Nat→Value):List Value:=(J j 0 4 ++ ([.pointer (some ⟨2,0,none⟩),.pointer (some ⟨3,0,none⟩),.int .i64 ((i:Nat):Int),.int .i64 ((pL p).getD 0 0),.pointer (some ⟨4,0,none⟩),.int .i64 0] ++ (J j 10 42)))
theorem dDo6p_0 (A B:List Int) (i p:Nat) (j:Nat→Value):evC (yty.en tabY1) dDo6p_h (cAt [1,1,0,1,0,0,1,0,0,1,1,0,0] (bdy Try.f10)) ⟨dDoG_s A B i p j,dDoG_m A B i p,True,[]⟩=some (.normal,⟨dDo6p_b A B i p j,[((wA .u8 16 A),(22,(0,0))),((wA .u8 16 B),(22,(0,0))),((wA .u8 16 []),(22,(0,0))),((wA .i64 128 (pL p)),(47,(0,0))),((wA .i64 128 []),(47,(0,0)))],(True∧True),[]⟩):=by kernel_rfl
theorem dDo6 (A B:List Int) (i p:Nat) (j:Nat→Value) (hA:By A) (hB:By B) (hp:p=fI i (tmN (nL A) (nL B))) (hl:p<2 ^ 128) (hi:i≤128) (hi1:i<128)  {c0:Prop} {ch0:List (Option Value)}:Runs Try.prog (cAt [1,1,0,1,0,0,1,0,0,1,1,0,0] (bdy Try.f10)) ⟨dDoG_s A B i p j,dDoG_m A B i p,c0,ch0⟩ (fun e s=>e= .normal∧∃(j:Nat→Value) (c:Prop) (ch:List (Option Value)),(0≤127)∧s=⟨dDoH_s A B i p 0 j,dDoH_m A B i p 0,c,ch⟩) 0:=by
  refine(runs_ev mixed _ (dDo6p_0 A B i p j) ⟨trivial,trivial⟩).mono ?_
  rintro e s ⟨rfl,hs⟩
  refine⟨rfl,fun q=>s.tm.getD q undef,s.c,s.ch,by omega,?_⟩
  subst hs
  kernel_rfl
def dDo7p_h (i:Nat):Hn:=if i=1 then⟨6,[],[],[],[]⟩ else⟨0,[],[],[],[]⟩
def dDo7p_b (A B:List Int) (i p:Nat) (k:Nat) (j:Nat→Value):List Value:=(J j 0 4 ++ ([.pointer (some ⟨2,0,none⟩),.pointer (some ⟨3,0,none⟩),.int .i64 ((i:Nat):Int),.int .i64 ((pL p).getD 0 0),.pointer (some ⟨4,0,none⟩),.int .i64 ((k+1:Nat):Int)] ++ (J j 10 11 ++ ([.int .i64 ((k:Nat):Int),.bool true,.int .i64 ((k:Nat):Int),.int .i64 ((k+1:Nat):Int),.int .i64 ((k:Nat):Int),.int .i64 ((k:Nat):Int),.int .i64 ((k+1:Nat):Int),.pointer (some ⟨3,0+Int.toNat ((k+1:Nat):Int)*1,none⟩),.int .i64 ((pL p).getD (k+1) 0),.pointer (some ⟨4,0+Int.toNat ((k:Nat):Int)*1,none⟩)] ++ (J j 31 21)))))
theorem dDo7p_0 (A B:List Int) (i p:Nat) (k:Nat) (j:Nat→Value):evC (yty.en tabY1) dDo7p_h (cAt [1,1,0,1,0,0,1,0,0,1,1,0,1,0,0] (bdy Try.f10)) ⟨dDoH_s A B i p k j,dDoH_m A B i p k,True,[some (.bool true),some (.int .i64 ((k+1:Nat):Int)),some (.int .i64 ((pL p).getD (k+1) 0)),some (.agg (wA .i64 128 (pL (zm (p / 2) (k+1))))),some (.int .i64 ((k+1:Nat):Int))]⟩=some (.normal,⟨dDo7p_b A B i p k j,[((wA .u8 16 A),(22,(0,0))),((wA .u8 16 B),(22,(0,0))),((wA .u8 16 []),(22,(0,0))),((wA .i64 128 (pL p)),(47,(0,0))),((wA .i64 128 (pL (zm (p / 2) (k+1)))),(47,(0,0)))],((((((((((((True∧True)∧(True∧(decide (((k:Nat):Int)<127))=true))∧True)∧True)∧(True∧(IntKind.i64.wrap (((k:Nat):Int)+1))=((k+1:Nat):Int)))∧(0≤((k+1:Nat):Int)∧((k+1:Nat):Int)<((128:Nat):Int)))∧(((wA .i64 128 (pL p))[(0+Int.toNat ((k+1:Nat):Int)*1)]? =some (.int .i64 ((pL p).getD (k+1) 0)))∧((pL p).getD (k+1) 0)=((pL p).getD (k+1) 0)))∧(0≤((k:Nat):Int)∧((k:Nat):Int)<((128:Nat):Int)))∧((0+Int.toNat ((k:Nat):Int)*1)<(wA .i64 128 (pL (zm (p / 2) k))).size∧(wA .i64 128 (pL (zm (p / 2) k))).setIfInBounds (0+Int.toNat ((k:Nat):Int)*1) (.int .i64 ((pL p).getD (k+1) 0))=(wA .i64 128 (pL (zm (p / 2) (k+1))))))∧True)∧(True∧(IntKind.i64.wrap (((k:Nat):Int)+1))=((k+1:Nat):Int)))∧True),[]⟩):=by kernel_rfl
theorem dDo7 (A B:List Int) (i p:Nat) (k:Nat) (j:Nat→Value) (hA:By A) (hB:By B) (hp:p=fI i (tmN (nL A) (nL B))) (hl:p<2 ^ 128) (hi:i≤128) (hi1:i<128) (hk:k≤127) (hlt:k<127) {c0:Prop} {ch0:List (Option Value)}:Runs Try.prog (cAt [1,1,0,1,0,0,1,0,0,1,1,0,1,0,0] (bdy Try.f10)) ⟨dDoH_s A B i p k j,dDoH_m A B i p k,c0,ch0⟩ (fun e s=>e= .normal∧∃(j:Nat→Value) (c:Prop) (ch:List (Option Value)),((k+1)≤127)∧s=⟨dDoH_s A B i p (k+1) j,dDoH_m A B i p (k+1),c,ch⟩) 0:=by
  have h0:(decide (((k:Nat):Int)<127))=true:=(decide_eq_true (by omega))
  refine(runs_ev mixed _ (dDo7p_0 A B i p k j) ⟨⟨⟨⟨⟨⟨⟨⟨⟨⟨⟨⟨trivial,trivial⟩,⟨trivial,h0⟩⟩,trivial⟩,trivial⟩,⟨trivial,(by rw[IntKind.wrap_i64];omega)⟩⟩,(by(try simp only[Int.toNat_natCast,wA_size]);omega)⟩,⟨(wA_get (by omega) (by omega)),rfl⟩⟩,(by(try simp only[Int.toNat_natCast,wA_size]);omega)⟩,pL_put (by omega) (by rw[Int.toNat_natCast];omega) (fun q _=>bt_zm _ _ (by rw[pL_at (by omega),bt_sh]) q)⟩,trivial⟩,⟨trivial,(by rw[IntKind.wrap_i64];omega)⟩⟩,trivial⟩).mono ?_
  rintro e s ⟨rfl,hs⟩
  refine⟨rfl,fun q=>s.tm.getD q undef,s.c,s.ch,by omega,?_⟩
  subst hs
  kernel_rfl
abbrev dDoI_s (A B:List Int) (i p:Nat) (k:Nat) (j:Nat→Value):List Value:=(J j 0 4 ++ ([.pointer (some ⟨2,0,none⟩),.pointer (some ⟨3,0,none⟩),.int .i64 ((i:Nat):Int),.int .i64 ((pL p).getD 0 0),.pointer (some ⟨4,0,none⟩)] ++ (J j 9 43)))
abbrev dDoI_m (A B:List Int) (i p:Nat) (k:Nat):List Mb:= [((wA .u8 16 A),(22,(0,0))),((wA .u8 16 B),(22,(0,0))),((wA .u8 16 []),(22,(0,0))),((wA .i64 128 (pL p)),(47,(0,0))),((wA .i64 128 (pL (p / 2))),(47,(0,0)))]
def dDo8p_h (i:Nat):Hn:=if i=1 then⟨6,[],[],[],[]⟩ else⟨0,[],[],[],[]⟩
def dDo8p_b (A B:List Int) (i p:Nat) (k:Nat) (j:Nat→Value):List Value:=(J j 0 4 ++ ([.pointer (some ⟨2,0,none⟩),.pointer (some ⟨3,0,none⟩),.int .i64 ((i:Nat):Int),.int .i64 ((pL p).getD 0 0),.pointer (some ⟨4,0,none⟩),.int .i64 ((k:Nat):Int)] ++ (J j 10 11 ++ ([.int .i64 ((k:Nat):Int),.bool false] ++ (J j 23 29)))))
theorem dDo8p_0 (A B:List Int) (i p:Nat) (k:Nat) (j:Nat→Value):evC (yty.en tabY1) dDo8p_h (cAt [1,1,0,1,0,0,1,0,0,1,1,0,1,0,0] (bdy Try.f10)) ⟨dDoH_s A B i p k j,dDoH_m A B i p k,True,[some (.bool false)]⟩=some ((.exit 2),⟨dDo8p_b A B i p k j,[((wA .u8 16 A),(22,(0,0))),((wA .u8 16 B),(22,(0,0))),((wA .u8 16 []),(22,(0,0))),((wA .i64 128 (pL p)),(47,(0,0))),((wA .i64 128 (pL (zm (p / 2) k))),(47,(0,0)))],((True∧True)∧(True∧(decide (((k:Nat):Int)<127))=false)),[]⟩):=by kernel_rfl
theorem dDo8 (A B:List Int) (i p:Nat) (k:Nat) (j:Nat→Value) (hA:By A) (hB:By B) (hp:p=fI i (tmN (nL A) (nL B))) (hl:p<2 ^ 128) (hi:i≤128) (hi1:i<128) (hk:k≤127) (hge:¬ k<127) {c0:Prop} {ch0:List (Option Value)}:Runs Try.prog (cAt [1,1,0,1,0,0,1,0,0,1,1,0,1,0,0] (bdy Try.f10)) ⟨dDoH_s A B i p k j,dDoH_m A B i p k,c0,ch0⟩ (fun e s=>e=(.exit 2)∧∃(j:Nat→Value) (c:Prop) (ch:List (Option Value)),s=⟨dDoI_s A B i p k j,dDoI_m A B i p k,c,ch⟩) 0:=by
  have h0:(decide (((k:Nat):Int)<127))=false:=(decide_eq_false (by omega))
  refine(runs_ev mixed _ (dDo8p_0 A B i p k j) ⟨⟨trivial,trivial⟩,⟨trivial,h0⟩⟩).mono ?_
  rintro e s ⟨rfl,hs⟩
  refine⟨rfl,fun q=>s.tm.getD q undef,s.c,s.ch,?_⟩
  subst hs
  rw[show k=127 by omega,zm_eq,Nat.mod_eq_of_lt (show p / 2<2 ^ 127 by omega)]
  kernel_rfl
theorem dDo9L (A:List Int) (B:List Int) (i:Nat) (p:Nat) (j:Nat→Value) (hA:By A) (hB:By B) (hp:p=fI i (tmN (nL A) (nL B))) (hl:p<2 ^ 128) (hi:i≤128) (hi1:i<128) (ihk:0≤127)  {c0:Prop} {ch0:List (Option Value)}:Runs Try.prog (.loop (cAt [1,1,0,1,0,0,1,0,0,1,1,0,1,0,0] (bdy Try.f10))) ⟨dDoH_s A B i p 0 j,dDoH_m A B i p 0,c0,ch0⟩ (fun e s=>e= .exit 2∧∃(k:Nat) (j:Nat→Value) (c:Prop) (ch:List (Option Value)),s=⟨dDoI_s A B i p k j,dDoI_m A B i p k,c,ch⟩) 0:=by
  refine runs_loop (fun M s=>∃(k:Nat) (j:Nat→Value) (c:Prop) (ch:List (Option Value)),(k≤127)∧M=127 - k∧s=⟨dDoH_s A B i p k j,dDoH_m A B i p k,c,ch⟩) (127 - 0) ⟨0,j,c0,ch0,ihk,rfl,rfl⟩ ?_
  rintro M s ⟨k,j,c,ch,hk,rfl,rfl⟩
  by_cases hlt:k<127
  · skip
    refine(dDo7 A B i p k j hA hB hp hl hi hi1 hk hlt).mono ?_
    rintro e s ⟨rfl,j,c,ch,f6,rfl⟩
    exact .inl ⟨rfl,127 - (k+1),by omega,⟨(k+1),j,c,ch,f6,rfl,rfl⟩⟩
  · refine (dDo8 A B i p k j hA hB hp hl hi hi1 hk hlt).mono ?_
    intro e s hh
    obtain⟨rfl,j,c,ch,rfl⟩:=hh
    exact .inr ⟨by simp,rfl,k,j,c,ch,rfl⟩
theorem dDo9 (A:List Int) (B:List Int) (i:Nat) (p:Nat) (j:Nat→Value) (hA:By A) (hB:By B) (hp:p=fI i (tmN (nL A) (nL B))) (hl:p<2 ^ 128) (hi:i≤128) (hi1:i<128) (ihk:0≤127)  {c0:Prop} {ch0:List (Option Value)}:Runs Try.prog (cAt [1,1,0,1,0,0,1,0,0,1,1,0,1] (bdy Try.f10)) ⟨dDoH_s A B i p 0 j,dDoH_m A B i p 0,c0,ch0⟩ (fun e s=>e= .normal∧∃(k:Nat) (j:Nat→Value) (c:Prop) (ch:List (Option Value)),s=⟨dDoI_s A B i p k j,dDoI_m A B i p k,c,ch⟩) 0:=by
  rw[show(cAt [1,1,0,1,0,0,1,0,0,1,1,0,1] (bdy Try.f10))= .block 2 (.loop (cAt [1,1,0,1,0,0,1,0,0,1,1,0,1,0,0] (bdy Try.f10))) from by kernel_rfl]
  refine runs_block (dDo9L A B i p j hA hB hp hl hi hi1 ihk ) ?_
  rintro e s ⟨rfl,hh⟩
  exact .inl ⟨rfl,rfl,hh⟩
theorem dDo0a (A B:List Int) (i p:Nat) (j:Nat→Value) (hA:By A) (hB:By B) (hp:p=fI i (tmN (nL A) (nL B))) (hl:p<2 ^ 128) (hi:i≤128) (hi1:i<128)  {c0:Prop} {ch0:List (Option Value)}:Runs Try.prog (cAt [1,1,0,1,0,0,1,0,0,1,1,0] (bdy Try.f10)) ⟨dDoG_s A B i p j,dDoG_m A B i p,c0,ch0⟩ (fun e s=>e= .normal∧∃(k1:Nat) (j:Nat→Value) (c:Prop) (ch:List (Option Value)),s=⟨dDoI_s A B i p k1 j,dDoI_m A B i p k1,c,ch⟩) 0:=by
  rw[show(cAt [1,1,0,1,0,0,1,0,0,1,1,0] (bdy Try.f10))=(.seq (cAt [1,1,0,1,0,0,1,0,0,1,1,0,0] (bdy Try.f10)) (cAt [1,1,0,1,0,0,1,0,0,1,1,0,1] (bdy Try.f10))) from by kernel_rfl]
  refine runs_seq (dDo6 A B i p j hA hB hp hl hi hi1 ) (fun s hh=> ?_) (fun e s hne hh=>absurd hh.1 hne)
  obtain⟨_,j,c,ch,f0_6,rfl⟩:=hh
  refine(dDo9 A B i p j hA hB hp hl hi hi1 f0_6 ).mono ?_
  rintro e s ⟨rfl,k1,j,c,ch,rfl⟩
  exact⟨rfl,k1,j,c,ch,rfl⟩
abbrev dDoJ_s (A B:List Int) (i p:Nat) (k:Nat) (v:Nat) (j:Nat→Value):List Value:=(J j 0 4 ++ ([.pointer (some ⟨2,0,none⟩),.pointer (some ⟨3,0,none⟩),.int .i64 ((i:Nat):Int),.int .i64 ((pL p).getD 0 0),.pointer (some ⟨4,0,none⟩)] ++ (J j 9 43)))
abbrev dDoJ_m (A B:List Int) (i p:Nat) (k:Nat) (v:Nat):List Mb:= [((wA .u8 16 A),(22,(0,0))),((wA .u8 16 B),(22,(0,0))),((wA .u8 16 []),(22,(0,0))),((wA .i64 128 (pL p)),(47,(0,0))),((wA .i64 128 (pL v)),(47,(0,0)))]
def dDo0bp_h (i:Nat):Hn:=if i=1 then⟨6,[],[],[],[]⟩ else⟨0,[],[],[],[]⟩
def dDo0bp_b (A B:List Int) (i p:Nat) (k:Nat) (j:Nat→Value):List Value:=(J j 0 4 ++ ([.pointer (some ⟨2,0,none⟩),.pointer (some ⟨3,0,none⟩),.int .i64 ((i:Nat):Int),.int .i64 ((pL p).getD 0 0),.pointer (some ⟨4,0,none⟩)] ++ (J j 9 22 ++ ([.int .i64 ((pL p).getD 0 0),.bool true,.pointer (some ⟨4,127,none⟩),.int .i64 ((pL (p / 2)).getD 127 0),.int .i64 (bits .xor .i64 ((pL (p / 2)).getD 127 0) 1),.pointer (some ⟨4,127,none⟩),.pointer (some ⟨4,126,none⟩),.int .i64 ((pL ((p / 2) ^^^ 2 ^ 127)).getD 126 0),.int .i64 (bits .xor .i64 ((pL ((p / 2) ^^^ 2 ^ 127)).getD 126 0) 1),.pointer (some ⟨4,126,none⟩),.pointer (some ⟨4,125,none⟩),.int .i64 ((pL (((p / 2) ^^^ 2 ^ 127) ^^^ 2 ^ 126)).getD 125 0),.int .i64 (bits .xor .i64 ((pL (((p / 2) ^^^ 2 ^ 127) ^^^ 2 ^ 126)).getD 125 0) 1),.pointer (some ⟨4,125,none⟩),.pointer (some ⟨4,120,none⟩),.int .i64 ((pL ((((p / 2) ^^^ 2 ^ 127) ^^^ 2 ^ 126) ^^^ 2 ^ 125)).getD 120 0),.int .i64 (bits .xor .i64 ((pL ((((p / 2) ^^^ 2 ^ 127) ^^^ 2 ^ 126) ^^^ 2 ^ 125)).getD 120 0) 1),.pointer (some ⟨4,120,none⟩)] ++ (J j 49 3)))))
theorem dDo0bp_0 (A B:List Int) (i p:Nat) (k:Nat) (j:Nat→Value):evC (yty.en tabY1) dDo0bp_h (cAt [1,1,0,1,0,0,1,0,0,1,1,1,0] (bdy Try.f10)) ⟨dDoI_s A B i p k j,dDoI_m A B i p k,True,[some (.bool true),some (.int .i64 ((pL (p / 2)).getD 127 0)),none,some (.agg (wA .i64 128 (pL ((p / 2) ^^^ 2 ^ 127)))),some (.int .i64 ((pL ((p / 2) ^^^ 2 ^ 127)).getD 126 0)),none,some (.agg (wA .i64 128 (pL (((p / 2) ^^^ 2 ^ 127) ^^^ 2 ^ 126)))),some (.int .i64 ((pL (((p / 2) ^^^ 2 ^ 127) ^^^ 2 ^ 126)).getD 125 0)),none,some (.agg (wA .i64 128 (pL ((((p / 2) ^^^ 2 ^ 127) ^^^ 2 ^ 126) ^^^ 2 ^ 125)))),some (.int .i64 ((pL ((((p / 2) ^^^ 2 ^ 127) ^^^ 2 ^ 126) ^^^ 2 ^ 125)).getD 120 0)),none,some (.agg (wA .i64 128 (pL (((((p / 2) ^^^ 2 ^ 127) ^^^ 2 ^ 126) ^^^ 2 ^ 125) ^^^ 2 ^ 120))))]⟩=some (.normal,⟨dDo0bp_b A B i p k j,[((wA .u8 16 A),(22,(0,0))),((wA .u8 16 B),(22,(0,0))),((wA .u8 16 []),(22,(0,0))),((wA .i64 128 (pL p)),(47,(0,0))),((wA .i64 128 (pL (((((p / 2) ^^^ 2 ^ 127) ^^^ 2 ^ 126) ^^^ 2 ^ 125) ^^^ 2 ^ 120))),(47,(0,0)))],((((((((((((((((((((((True∧True)∧(True∧(decide (((pL p).getD 0 0)=1))=true))∧((0:Int)≤127∧(127:Int)<((128:Nat):Int)))∧(((wA .i64 128 (pL (p / 2)))[127]? =some (.int .i64 ((pL (p / 2)).getD 127 0)))∧((pL (p / 2)).getD 127 0)=((pL (p / 2)).getD 127 0)))∧True)∧((0:Int)≤127∧(127:Int)<((128:Nat):Int)))∧(127<(wA .i64 128 (pL (p / 2))).size∧(wA .i64 128 (pL (p / 2))).setIfInBounds (127) (.int .i64 (bits .xor .i64 ((pL (p / 2)).getD 127 0) 1))=(wA .i64 128 (pL ((p / 2) ^^^ 2 ^ 127)))))∧((0:Int)≤126∧(126:Int)<((128:Nat):Int)))∧(((wA .i64 128 (pL ((p / 2) ^^^ 2 ^ 127)))[126]? =some (.int .i64 ((pL ((p / 2) ^^^ 2 ^ 127)).getD 126 0)))∧((pL ((p / 2) ^^^ 2 ^ 127)).getD 126 0)=((pL ((p / 2) ^^^ 2 ^ 127)).getD 126 0)))∧True)∧((0:Int)≤126∧(126:Int)<((128:Nat):Int)))∧(126<(wA .i64 128 (pL ((p / 2) ^^^ 2 ^ 127))).size∧(wA .i64 128 (pL ((p / 2) ^^^ 2 ^ 127))).setIfInBounds (126) (.int .i64 (bits .xor .i64 ((pL ((p / 2) ^^^ 2 ^ 127)).getD 126 0) 1))=(wA .i64 128 (pL (((p / 2) ^^^ 2 ^ 127) ^^^ 2 ^ 126)))))∧((0:Int)≤125∧(125:Int)<((128:Nat):Int)))∧(((wA .i64 128 (pL (((p / 2) ^^^ 2 ^ 127) ^^^ 2 ^ 126)))[125]? =some (.int .i64 ((pL (((p / 2) ^^^ 2 ^ 127) ^^^ 2 ^ 126)).getD 125 0)))∧((pL (((p / 2) ^^^ 2 ^ 127) ^^^ 2 ^ 126)).getD 125 0)=((pL (((p / 2) ^^^ 2 ^ 127) ^^^ 2 ^ 126)).getD 125 0)))∧True)∧((0:Int)≤125∧(125:Int)<((128:Nat):Int)))∧(125<(wA .i64 128 (pL (((p / 2) ^^^ 2 ^ 127) ^^^ 2 ^ 126))).size∧(wA .i64 128 (pL (((p / 2) ^^^ 2 ^ 127) ^^^ 2 ^ 126))).setIfInBounds (125) (.int .i64 (bits .xor .i64 ((pL (((p / 2) ^^^ 2 ^ 127) ^^^ 2 ^ 126)).getD 125 0) 1))=(wA .i64 128 (pL ((((p / 2) ^^^ 2 ^ 127) ^^^ 2 ^ 126) ^^^ 2 ^ 125)))))∧((0:Int)≤120∧(120:Int)<((128:Nat):Int)))∧(((wA .i64 128 (pL ((((p / 2) ^^^ 2 ^ 127) ^^^ 2 ^ 126) ^^^ 2 ^ 125)))[120]? =some (.int .i64 ((pL ((((p / 2) ^^^ 2 ^ 127) ^^^ 2 ^ 126) ^^^ 2 ^ 125)).getD 120 0)))∧((pL ((((p / 2) ^^^ 2 ^ 127) ^^^ 2 ^ 126) ^^^ 2 ^ 125)).getD 120 0)=((pL ((((p / 2) ^^^ 2 ^ 127) ^^^ 2 ^ 126) ^^^ 2 ^ 125)).getD 120 0)))∧True)∧((0:Int)≤120∧(120:Int)<((128:Nat):Int)))∧(120<(wA .i64 128 (pL ((((p / 2) ^^^ 2 ^ 127) ^^^ 2 ^ 126) ^^^ 2 ^ 125))).size∧(wA .i64 128 (pL ((((p / 2) ^^^ 2 ^ 127) ^^^ 2 ^ 126) ^^^ 2 ^ 125))).setIfInBounds (120) (.int .i64 (bits .xor .i64 ((pL ((((p / 2) ^^^ 2 ^ 127) ^^^ 2 ^ 126) ^^^ 2 ^ 125)).getD 120 0) 1))=(wA .i64 128 (pL (((((p / 2) ^^^ 2 ^ 127) ^^^ 2 ^ 126) ^^^ 2 ^ 125) ^^^ 2 ^ 120))))),[]⟩):=by kernel_rfl
theorem dDo0b (A B:List Int) (i p:Nat) (k:Nat) (j:Nat→Value) (hA:By A) (hB:By B) (hp:p=fI i (tmN (nL A) (nL B))) (hl:p<2 ^ 128) (hi:i≤128) (hi1:i<128) (hb0:p.testBit 0=true) {c0:Prop} {ch0:List (Option Value)}:Runs Try.prog (cAt [1,1,0,1,0,0,1,0,0,1,1,1,0] (bdy Try.f10)) ⟨dDoI_s A B i p k j,dDoI_m A B i p k,c0,ch0⟩ (fun e s=>e= .normal∧∃(j:Nat→Value) (c:Prop) (ch:List (Option Value)),((((((p / 2) ^^^ 2 ^ 127) ^^^ 2 ^ 126) ^^^ 2 ^ 125) ^^^ 2 ^ 120)=fD p)∧s=⟨dDoJ_s A B i p k (((((p / 2) ^^^ 2 ^ 127) ^^^ 2 ^ 126) ^^^ 2 ^ 125) ^^^ 2 ^ 120) j,dDoJ_m A B i p k (((((p / 2) ^^^ 2 ^ 127) ^^^ 2 ^ 126) ^^^ 2 ^ 125) ^^^ 2 ^ 120),c,ch⟩) 0:=by
  have h0:(decide (((pL p).getD 0 0)=1))=true:=(decide_eq_true (by rw[pL_at (by decide)];unfold bti;rw[hb0];rfl))
  refine(runs_ev mixed _ (dDo0bp_0 A B i p k j) ⟨⟨⟨⟨⟨⟨⟨⟨⟨⟨⟨⟨⟨⟨⟨⟨⟨⟨⟨⟨⟨⟨trivial,trivial⟩,⟨trivial,h0⟩⟩,⟨by decide,by decide⟩⟩,⟨(wA_get (by omega) (by omega)),rfl⟩⟩,trivial⟩,⟨by decide,by decide⟩⟩,pL_put (by decide) rfl (fun k _=>bt_flip (p / 2) 127 (by rw[pL_at (by decide),xb1]) k)⟩,⟨by decide,by decide⟩⟩,⟨(wA_get (by omega) (by omega)),rfl⟩⟩,trivial⟩,⟨by decide,by decide⟩⟩,pL_put (by decide) rfl (fun k _=>bt_flip ((p / 2) ^^^ 2 ^ 127) 126 (by rw[pL_at (by decide),xb1]) k)⟩,⟨by decide,by decide⟩⟩,⟨(wA_get (by omega) (by omega)),rfl⟩⟩,trivial⟩,⟨by decide,by decide⟩⟩,pL_put (by decide) rfl (fun k _=>bt_flip (((p / 2) ^^^ 2 ^ 127) ^^^ 2 ^ 126) 125 (by rw[pL_at (by decide),xb1]) k)⟩,⟨by decide,by decide⟩⟩,⟨(wA_get (by omega) (by omega)),rfl⟩⟩,trivial⟩,⟨by decide,by decide⟩⟩,pL_put (by decide) rfl (fun k _=>bt_flip ((((p / 2) ^^^ 2 ^ 127) ^^^ 2 ^ 126) ^^^ 2 ^ 125) 120 (by rw[pL_at (by decide),xb1]) k)⟩).mono ?_
  rintro e s ⟨rfl,hs⟩
  refine⟨rfl,fun q=>s.tm.getD q undef,s.c,s.ch,by rw[fD_chain p hl,hb0];rfl,?_⟩
  subst hs
  kernel_rfl
def dDo0cp_h (i:Nat):Hn:=if i=1 then⟨6,[],[],[],[]⟩ else⟨0,[],[],[],[]⟩
def dDo0cp_b (A B:List Int) (i p:Nat) (k:Nat) (j:Nat→Value):List Value:=(J j 0 4 ++ ([.pointer (some ⟨2,0,none⟩),.pointer (some ⟨3,0,none⟩),.int .i64 ((i:Nat):Int),.int .i64 ((pL p).getD 0 0),.pointer (some ⟨4,0,none⟩)] ++ (J j 9 22 ++ ([.int .i64 ((pL p).getD 0 0),.bool false] ++ (J j 33 19)))))
theorem dDo0cp_0 (A B:List Int) (i p:Nat) (k:Nat) (j:Nat→Value):evC (yty.en tabY1) dDo0cp_h (cAt [1,1,0,1,0,0,1,0,0,1,1,1,0] (bdy Try.f10)) ⟨dDoI_s A B i p k j,dDoI_m A B i p k,True,[some (.bool false)]⟩=some (.normal,⟨dDo0cp_b A B i p k j,[((wA .u8 16 A),(22,(0,0))),((wA .u8 16 B),(22,(0,0))),((wA .u8 16 []),(22,(0,0))),((wA .i64 128 (pL p)),(47,(0,0))),((wA .i64 128 (pL (p / 2))),(47,(0,0)))],((True∧True)∧(True∧(decide (((pL p).getD 0 0)=1))=false)),[]⟩):=by kernel_rfl
theorem dDo0c (A B:List Int) (i p:Nat) (k:Nat) (j:Nat→Value) (hA:By A) (hB:By B) (hp:p=fI i (tmN (nL A) (nL B))) (hl:p<2 ^ 128) (hi:i≤128) (hi1:i<128) (hb0:¬ p.testBit 0=true) {c0:Prop} {ch0:List (Option Value)}:Runs Try.prog (cAt [1,1,0,1,0,0,1,0,0,1,1,1,0] (bdy Try.f10)) ⟨dDoI_s A B i p k j,dDoI_m A B i p k,c0,ch0⟩ (fun e s=>e= .normal∧∃(j:Nat→Value) (c:Prop) (ch:List (Option Value)),((p / 2)=fD p)∧s=⟨dDoJ_s A B i p k (p / 2) j,dDoJ_m A B i p k (p / 2),c,ch⟩) 0:=by
  have h0:(decide (((pL p).getD 0 0)=1))=false:=(decide_eq_false (by rw[pL_at (by decide)];unfold bti;rw[fb_of hb0];decide))
  refine(runs_ev mixed _ (dDo0cp_0 A B i p k j) ⟨⟨trivial,trivial⟩,⟨trivial,h0⟩⟩).mono ?_
  rintro e s ⟨rfl,hs⟩
  refine⟨rfl,fun q=>s.tm.getD q undef,s.c,s.ch,by rw[fD_chain p hl,fb_of hb0];rfl,?_⟩
  subst hs
  kernel_rfl
theorem dDo0d (A B:List Int) (i p:Nat) (k:Nat) (j:Nat→Value) (hA:By A) (hB:By B) (hp:p=fI i (tmN (nL A) (nL B))) (hl:p<2 ^ 128) (hi:i≤128) (hi1:i<128)  {c0:Prop} {ch0:List (Option Value)}:Runs Try.prog (cAt [1,1,0,1,0,0,1,0,0,1,1,1,0] (bdy Try.f10)) ⟨dDoI_s A B i p k j,dDoI_m A B i p k,c0,ch0⟩ (fun e s=>e= .normal∧∃(v:Nat) (j:Nat→Value) (c:Prop) (ch:List (Option Value)),(v=fD p)∧s=⟨dDoJ_s A B i p k v j,dDoJ_m A B i p k v,c,ch⟩) 0:=by
  by_cases hb0:p.testBit 0=true
  · refine (dDo0b A B i p k j hA hB hp hl hi hi1 hb0).mono ?_
    rintro e s ⟨rfl,j,c,ch,f6,rfl⟩
    exact⟨rfl,(((((p / 2) ^^^ 2 ^ 127) ^^^ 2 ^ 126) ^^^ 2 ^ 125) ^^^ 2 ^ 120),j,c,ch,f6,rfl⟩
  · refine (dDo0c A B i p k j hA hB hp hl hi hi1 hb0).mono ?_
    rintro e s ⟨rfl,j,c,ch,f6,rfl⟩
    exact⟨rfl,(p / 2),j,c,ch,f6,rfl⟩
abbrev dDoK_s (A B:List Int) (i p:Nat) (k:Nat) (v:Nat) (j:Nat→Value):List Value:=(J j 0 4 ++ ([.pointer (some ⟨2,0,none⟩),.pointer (some ⟨3,0,none⟩),.int .i64 ((i:Nat):Int)] ++ (J j 7 45)))
abbrev dDoK_m (A B:List Int) (i p:Nat) (k:Nat) (v:Nat):List Mb:= [((wA .u8 16 A),(22,(0,0))),((wA .u8 16 B),(22,(0,0))),((wA .u8 16 []),(22,(0,0))),((wA .i64 128 (pL v)),(47,(0,0)))]
def dDo0ep_h (i:Nat):Hn:=if i=1 then⟨6,[],[],[],[]⟩ else⟨0,[],[],[],[]⟩
def dDo0ep_b (A B:List Int) (i p:Nat) (k:Nat) (v:Nat) (j:Nat→Value):List Value:=(J j 0 4 ++ ([.pointer (some ⟨2,0,none⟩),.pointer (some ⟨3,0,none⟩),.int .i64 ((i:Nat):Int),.int .i64 ((pL p).getD 0 0),.pointer (some ⟨4,0,none⟩)] ++ (J j 9 40 ++ ([.agg (wA .i64 128 (pL v)),j 50,j 51]))))
theorem dDo0ep_0 (A B:List Int) (i p:Nat) (k:Nat) (v:Nat) (j:Nat→Value):evC (yty.en tabY1) dDo0ep_h (cAt [1,1,0,1,0,0,1,0,0,1,1,1,1] (bdy Try.f10)) ⟨dDoJ_s A B i p k v j,dDoJ_m A B i p k v,True,[]⟩=some (.normal,⟨dDo0ep_b A B i p k v j,[((wA .u8 16 A),(22,(0,0))),((wA .u8 16 B),(22,(0,0))),((wA .u8 16 []),(22,(0,0))),((wA .i64 128 (pL v)),(47,(0,0))),((wA .i64 128 (pL v)),(47,(0,0)))],((True∧True)∧((wA .i64 128 (pL v)).all (fun v=>v.oneCell')=true)),[]⟩):=by kernel_rfl
theorem dDo0e (A B:List Int) (i p:Nat) (k:Nat) (v:Nat) (j:Nat→Value) (hA:By A) (hB:By B) (hp:p=fI i (tmN (nL A) (nL B))) (hl:p<2 ^ 128) (hi:i≤128) (hi1:i<128) (hv:v=fD p)  {c0:Prop} {ch0:List (Option Value)}:Runs Try.prog (cAt [1,1,0,1,0,0,1,0,0,1,1,1,1] (bdy Try.f10)) ⟨dDoJ_s A B i p k v j,dDoJ_m A B i p k v,c0,ch0⟩ (fun e s=>e= .normal∧∃(j:Nat→Value) (c:Prop) (ch:List (Option Value)),s=⟨dDoK_s A B i p k v j,dDoK_m A B i p k v,c,ch⟩) 0:=by
  refine Runs.dropG (runs_ev mixed _ (dDo0ep_0 A B i p k v j) ⟨⟨trivial,trivial⟩,(wA_one _ _ _)⟩) ?_
  rintro e s ⟨rfl,hs⟩
  refine⟨s.mem.take 4,s.mem.drop 4,(List.take_append_drop 4 _).symm,by subst hs;simp[big],fun M2=>⟨rfl,fun q=>(s.tm.map (dn (s.mem.take 4).length M2)).getD q undef,s.c,s.ch,?_⟩⟩
  subst hs
  kernel_rfl
theorem dDo0f (A B:List Int) (i p:Nat) (k:Nat) (j:Nat→Value) (hA:By A) (hB:By B) (hp:p=fI i (tmN (nL A) (nL B))) (hl:p<2 ^ 128) (hi:i≤128) (hi1:i<128)  {c0:Prop} {ch0:List (Option Value)}:Runs Try.prog (cAt [1,1,0,1,0,0,1,0,0,1,1,1] (bdy Try.f10)) ⟨dDoI_s A B i p k j,dDoI_m A B i p k,c0,ch0⟩ (fun e s=>e= .normal∧∃(v0:Nat) (j:Nat→Value) (c:Prop) (ch:List (Option Value)),(v0=fD p)∧s=⟨dDoK_s A B i p k v0 j,dDoK_m A B i p k v0,c,ch⟩) 0:=by
  rw[show(cAt [1,1,0,1,0,0,1,0,0,1,1,1] (bdy Try.f10))=(.seq (cAt [1,1,0,1,0,0,1,0,0,1,1,1,0] (bdy Try.f10)) (cAt [1,1,0,1,0,0,1,0,0,1,1,1,1] (bdy Try.f10))) from by kernel_rfl]
  refine runs_seq (dDo0d A B i p k j hA hB hp hl hi hi1 ) (fun s hh=> ?_) (fun e s hne hh=>absurd hh.1 hne)
  obtain⟨_,v0,j,c,ch,f0_6,rfl⟩:=hh
  refine(dDo0e A B i p k v0 j hA hB hp hl hi hi1 f0_6 ).mono ?_
  rintro e s ⟨rfl,j,c,ch,rfl⟩
  exact⟨rfl,v0,j,c,ch,f0_6,rfl⟩
theorem dDo0g (A B:List Int) (i p:Nat) (j:Nat→Value) (hA:By A) (hB:By B) (hp:p=fI i (tmN (nL A) (nL B))) (hl:p<2 ^ 128) (hi:i≤128) (hi1:i<128)  {c0:Prop} {ch0:List (Option Value)}:Runs Try.prog (cAt [1,1,0,1,0,0,1,0,0,1,1] (bdy Try.f10)) ⟨dDoG_s A B i p j,dDoG_m A B i p,c0,ch0⟩ (fun e s=>e= .normal∧∃(k10:Nat) (v01:Nat) (j:Nat→Value) (c:Prop) (ch:List (Option Value)),(v01=fD p)∧s=⟨dDoK_s A B i p k10 v01 j,dDoK_m A B i p k10 v01,c,ch⟩) 0:=by
  rw[show(cAt [1,1,0,1,0,0,1,0,0,1,1] (bdy Try.f10))=(.seq (cAt [1,1,0,1,0,0,1,0,0,1,1,0] (bdy Try.f10)) (cAt [1,1,0,1,0,0,1,0,0,1,1,1] (bdy Try.f10))) from by kernel_rfl]
  refine runs_seq (dDo0a A B i p j hA hB hp hl hi hi1 ) (fun s hh=> ?_) (fun e s hne hh=>absurd hh.1 hne)
  obtain⟨_,k10,j,c,ch,rfl⟩:=hh
  refine(dDo0f A B i p k10 j hA hB hp hl hi hi1 ).mono ?_
  rintro e s ⟨rfl,v01,j,c,ch,f1_6,rfl⟩
  exact⟨rfl,k10,v01,j,c,ch,f1_6,rfl⟩
theorem dDo0i (A B:List Int) (i p:Nat) (j:Nat→Value) (hA:By A) (hB:By B) (hp:p=fI i (tmN (nL A) (nL B))) (hl:p<2 ^ 128) (hi:i≤128) (hi1:i<128)  {c0:Prop} {ch0:List (Option Value)}:Runs Try.prog (cAt [1,1,0,1,0,0,1,0,0,1] (bdy Try.f10)) ⟨dDoF_s A B i p j,dDoF_m A B i p,c0,ch0⟩ (fun e s=>e= .normal∧∃(k101:Nat) (v011:Nat) (j:Nat→Value) (c:Prop) (ch:List (Option Value)),(v011=fD p)∧s=⟨dDoK_s A B i p k101 v011 j,dDoK_m A B i p k101 v011,c,ch⟩) 0:=by
  rw[show(cAt [1,1,0,1,0,0,1,0,0,1] (bdy Try.f10))=(.seq (cAt [1,1,0,1,0,0,1,0,0,1,0] (bdy Try.f10)) (cAt [1,1,0,1,0,0,1,0,0,1,1] (bdy Try.f10))) from by kernel_rfl]
  refine runs_seq (dDo5 A B i p j hA hB hp hl hi hi1 ) (fun s hh=> ?_) (fun e s hne hh=>absurd hh.1 hne)
  obtain⟨_,j,c,ch,rfl⟩:=hh
  refine(dDo0g A B i p j hA hB hp hl hi hi1 ).mono ?_
  rintro e s ⟨rfl,k101,v011,j,c,ch,f1_6,rfl⟩
  exact⟨rfl,k101,v011,j,c,ch,f1_6,rfl⟩
theorem dDo0h (A B:List Int) (i p:Nat) (j:Nat→Value) (hA:By A) (hB:By B) (hp:p=fI i (tmN (nL A) (nL B))) (hl:p<2 ^ 128) (hi:i≤128) (hi1:i<128)  {c0:Prop} {ch0:List (Option Value)}:Runs Try.prog (cAt [1,1,0,1,0,0,1,0,0] (bdy Try.f10)) ⟨dDoE_s A B i p j,dDoE_m A B i p,c0,ch0⟩ (fun e s=>e= .normal∧∃(k1011:Nat) (v0111:Nat) (j:Nat→Value) (c:Prop) (ch:List (Option Value)),(v0111=fD p)∧s=⟨dDoK_s A B i p k1011 v0111 j,dDoK_m A B i p k1011 v0111,c,ch⟩) 0:=by
  rw[show(cAt [1,1,0,1,0,0,1,0,0] (bdy Try.f10))=(.seq (cAt [1,1,0,1,0,0,1,0,0,0] (bdy Try.f10)) (cAt [1,1,0,1,0,0,1,0,0,1] (bdy Try.f10))) from by kernel_rfl]
  refine runs_seq (dDo4 A B i p j hA hB hp hl hi hi1 ) (fun s hh=> ?_) (fun e s hne hh=>absurd hh.1 hne)
  obtain⟨_,j,c,ch,rfl⟩:=hh
  refine(dDo0i A B i p j hA hB hp hl hi hi1 ).mono ?_
  rintro e s ⟨rfl,k1011,v0111,j,c,ch,f1_6,rfl⟩
  exact⟨rfl,k1011,v0111,j,c,ch,f1_6,rfl⟩
theorem dDo0j (A B:List Int) (i p:Nat) (j:Nat→Value) (hA:By A) (hB:By B) (hp:p=fI i (tmN (nL A) (nL B))) (hl:p<2 ^ 128) (hi:i≤128) (hi1:i<128)  {c0:Prop} {ch0:List (Option Value)}:Runs Try.prog (cAt [1,1,0,1,0,0,1,0] (bdy Try.f10)) ⟨dDoE_s A B i p j,dDoE_m A B i p,c0,ch0⟩ (fun e s=>e= .normal∧∃(k1011:Nat) (v0111:Nat) (j:Nat→Value) (c:Prop) (ch:List (Option Value)),(v0111=fD p)∧s=⟨dDoK_s A B i p k1011 v0111 j,dDoK_m A B i p k1011 v0111,c,ch⟩) 0:=by
  rw[show(cAt [1,1,0,1,0,0,1,0] (bdy Try.f10))= .block 1 (cAt [1,1,0,1,0,0,1,0,0] (bdy Try.f10)) from by kernel_rfl]
  refine runs_block (dDo0h A B i p j hA hB hp hl hi hi1 ) ?_
  rintro e s ⟨rfl,hh⟩
  exact .inr (.inl ⟨rfl,rfl,hh⟩)
def dDo0kp_h (i:Nat):Hn:=if i=1 then⟨6,[],[],[],[]⟩ else⟨0,[],[],[],[]⟩
def dDo0kp_b (A B:List Int) (i p:Nat) (k:Nat) (v:Nat) (j:Nat→Value):List Value:=(J j 0 4 ++ ([.pointer (some ⟨2,0,none⟩),.pointer (some ⟨3,0,none⟩),.int .i64 ((i+1:Nat):Int)] ++ (J j 7 10 ++ ([.int .i64 ((i:Nat):Int),.int .i64 ((i+1:Nat):Int)] ++ (J j 19 33)))))
theorem dDo0kp_0 (A B:List Int) (i p:Nat) (k:Nat) (v:Nat) (j:Nat→Value):evC (yty.en tabY1) dDo0kp_h (cAt [1,1,0,1,0,0,1,1] (bdy Try.f10)) ⟨dDoK_s A B i p k v j,dDoK_m A B i p k v,True,[some (.int .i64 ((i+1:Nat):Int))]⟩=some (.normal,⟨dDo0kp_b A B i p k v j,[((wA .u8 16 A),(22,(0,0))),((wA .u8 16 B),(22,(0,0))),((wA .u8 16 []),(22,(0,0))),((wA .i64 128 (pL v)),(47,(0,0)))],(((True∧True)∧(True∧(IntKind.i64.wrap (((i:Nat):Int)+1))=((i+1:Nat):Int)))∧True),[]⟩):=by kernel_rfl
theorem dDo0k (A B:List Int) (i p:Nat) (k:Nat) (v:Nat) (j:Nat→Value) (hA:By A) (hB:By B) (hp:p=fI i (tmN (nL A) (nL B))) (hl:p<2 ^ 128) (hi:i≤128) (hi1:i<128) (hv:v=fD p)  {c0:Prop} {ch0:List (Option Value)}:Runs Try.prog (cAt [1,1,0,1,0,0,1,1] (bdy Try.f10)) ⟨dDoK_s A B i p k v j,dDoK_m A B i p k v,c0,ch0⟩ (fun e s=>e= .normal∧∃(j:Nat→Value) (c:Prop) (ch:List (Option Value)),(v=fI (i+1) (tmN (nL A) (nL B)))∧(v<2 ^ 128)∧((i+1)≤128)∧s=⟨dDoD_s A B (i+1) v j,dDoD_m A B (i+1) v,c,ch⟩) 0:=by
  refine(runs_ev mixed _ (dDo0kp_0 A B i p k v j) ⟨⟨⟨trivial,trivial⟩,⟨trivial,(by rw[IntKind.wrap_i64];omega)⟩⟩,trivial⟩).mono ?_
  rintro e s ⟨rfl,hs⟩
  refine⟨rfl,fun q=>s.tm.getD q undef,s.c,s.ch,by rw[hv,hp];rfl,by rw[hv];exact fD_lt hl,by omega,?_⟩
  subst hs
  kernel_rfl
theorem dDo0l (A B:List Int) (i p:Nat) (j:Nat→Value) (hA:By A) (hB:By B) (hp:p=fI i (tmN (nL A) (nL B))) (hl:p<2 ^ 128) (hi:i≤128) (hi1:i<128)  {c0:Prop} {ch0:List (Option Value)}:Runs Try.prog (cAt [1,1,0,1,0,0,1] (bdy Try.f10)) ⟨dDoE_s A B i p j,dDoE_m A B i p,c0,ch0⟩ (fun e s=>e= .normal∧∃(k10110:Nat) (v01110:Nat) (j:Nat→Value) (c:Prop) (ch:List (Option Value)),(v01110=fI (i+1) (tmN (nL A) (nL B)))∧(v01110<2 ^ 128)∧((i+1)≤128)∧s=⟨dDoD_s A B (i+1) v01110 j,dDoD_m A B (i+1) v01110,c,ch⟩) 0:=by
  rw[show(cAt [1,1,0,1,0,0,1] (bdy Try.f10))=(.seq (cAt [1,1,0,1,0,0,1,0] (bdy Try.f10)) (cAt [1,1,0,1,0,0,1,1] (bdy Try.f10))) from by kernel_rfl]
  refine runs_seq (dDo0j A B i p j hA hB hp hl hi hi1 ) (fun s hh=> ?_) (fun e s hne hh=>absurd hh.1 hne)
  obtain⟨_,k10110,v01110,j,c,ch,f0_6,rfl⟩:=hh
  refine(dDo0k A B i p k10110 v01110 j hA hB hp hl hi hi1 f0_6 ).mono ?_
  rintro e s ⟨rfl,j,c,ch,f1_2,f1_3,f1_4,rfl⟩
  exact⟨rfl,k10110,v01110,j,c,ch,f1_2,f1_3,f1_4,rfl⟩
theorem dDo0m (A B:List Int) (i p:Nat) (j:Nat→Value) (hA:By A) (hB:By B) (hp:p=fI i (tmN (nL A) (nL B))) (hl:p<2 ^ 128) (hi:i≤128) (hlt:i<128) {c0:Prop} {ch0:List (Option Value)}:Runs Try.prog (cAt [1,1,0,1,0,0] (bdy Try.f10)) ⟨dDoD_s A B i p j,dDoD_m A B i p,c0,ch0⟩ (fun e s=>e= .normal∧∃(k101101:Nat) (v011101:Nat) (j:Nat→Value) (c:Prop) (ch:List (Option Value)),(v011101=fI (i+1) (tmN (nL A) (nL B)))∧(v011101<2 ^ 128)∧((i+1)≤128)∧s=⟨dDoD_s A B (i+1) v011101 j,dDoD_m A B (i+1) v011101,c,ch⟩) 0:=by
  rw[show(cAt [1,1,0,1,0,0] (bdy Try.f10))=(.seq (cAt [1,1,0,1,0,0,0] (bdy Try.f10)) (cAt [1,1,0,1,0,0,1] (bdy Try.f10))) from by kernel_rfl]
  refine runs_seq (dDo3 A B i p j hA hB hp hl hi hlt) (fun s hh=> ?_) (fun e s hne hh=>absurd hh.1 hne)
  obtain⟨_,j,c,ch,f0_5,rfl⟩:=hh
  refine(dDo0l A B i p j hA hB hp hl hi f0_5 ).mono ?_
  rintro e s ⟨rfl,k101101,v011101,j,c,ch,f1_2,f1_3,f1_4,rfl⟩
  exact⟨rfl,k101101,v011101,j,c,ch,f1_2,f1_3,f1_4,rfl⟩
abbrev dDoL_s (A B:List Int) (i p:Nat) (j:Nat→Value):List Value:=(J j 0 4 ++ ([.pointer (some ⟨2,0,none⟩),.pointer (some ⟨3,0,none⟩)] ++ (J j 6 46)))
abbrev dDoL_m (A B:List Int) (i p:Nat):List Mb:= [((wA .u8 16 A),(22,(0,0))),((wA .u8 16 B),(22,(0,0))),((wA .u8 16 []),(22,(0,0))),((wA .i64 128 (pL p)),(47,(0,0)))]
def dDo0np_h (i:Nat):Hn:=if i=1 then⟨6,[],[],[],[]⟩ else⟨0,[],[],[],[]⟩
def dDo0np_b (A B:List Int) (i p:Nat) (j:Nat→Value):List Value:=(J j 0 4 ++ ([.pointer (some ⟨2,0,none⟩),.pointer (some ⟨3,0,none⟩),.int .i64 ((i:Nat):Int)] ++ (J j 7 8 ++ ([.int .i64 ((i:Nat):Int),.bool false] ++ (J j 17 35)))))
theorem dDo0np_0 (A B:List Int) (i p:Nat) (j:Nat→Value):evC (yty.en tabY1) dDo0np_h (cAt [1,1,0,1,0,0] (bdy Try.f10)) ⟨dDoD_s A B i p j,dDoD_m A B i p,True,[some (.bool false)]⟩=some ((.exit 0),⟨dDo0np_b A B i p j,[((wA .u8 16 A),(22,(0,0))),((wA .u8 16 B),(22,(0,0))),((wA .u8 16 []),(22,(0,0))),((wA .i64 128 (pL p)),(47,(0,0)))],((True∧True)∧(True∧(decide (((i:Nat):Int)<128))=false)),[]⟩):=by kernel_rfl
theorem dDo0n (A B:List Int) (i p:Nat) (j:Nat→Value) (hA:By A) (hB:By B) (hp:p=fI i (tmN (nL A) (nL B))) (hl:p<2 ^ 128) (hi:i≤128) (hge:¬ i<128) {c0:Prop} {ch0:List (Option Value)}:Runs Try.prog (cAt [1,1,0,1,0,0] (bdy Try.f10)) ⟨dDoD_s A B i p j,dDoD_m A B i p,c0,ch0⟩ (fun e s=>e=(.exit 0)∧∃(j:Nat→Value) (c:Prop) (ch:List (Option Value)),(p=fI 128 (tmN (nL A) (nL B)))∧s=⟨dDoL_s A B i p j,dDoL_m A B i p,c,ch⟩) 0:=by
  have h0:(decide (((i:Nat):Int)<128))=false:=(decide_eq_false (by omega))
  refine(runs_ev mixed _ (dDo0np_0 A B i p j) ⟨⟨trivial,trivial⟩,⟨trivial,h0⟩⟩).mono ?_
  rintro e s ⟨rfl,hs⟩
  refine⟨rfl,fun q=>s.tm.getD q undef,s.c,s.ch,by rw[hp,show i=128 by omega],?_⟩
  subst hs
  kernel_rfl
theorem dDo0oL (A:List Int) (B:List Int) (p:Nat) (j:Nat→Value) (hA:By A) (hB:By B) (ihp:p=fI 0 (tmN (nL A) (nL B))) (ihl:p<2 ^ 128) (ihi:0≤128)  {c0:Prop} {ch0:List (Option Value)}:Runs Try.prog (.loop (cAt [1,1,0,1,0,0] (bdy Try.f10))) ⟨dDoD_s A B 0 p j,dDoD_m A B 0 p,c0,ch0⟩ (fun e s=>e= .exit 0∧∃(i:Nat) (p:Nat) (j:Nat→Value) (c:Prop) (ch:List (Option Value)),(p=fI 128 (tmN (nL A) (nL B)))∧(p<2 ^ 128)∧s=⟨dDoL_s A B i p j,dDoL_m A B i p,c,ch⟩) 0:=by
  refine runs_loop (fun M s=>∃(i:Nat) (p:Nat) (j:Nat→Value) (c:Prop) (ch:List (Option Value)),(p=fI i (tmN (nL A) (nL B)))∧(p<2 ^ 128)∧(i≤128)∧M=128 - i∧s=⟨dDoD_s A B i p j,dDoD_m A B i p,c,ch⟩) (128 - 0) ⟨0,p,j,c0,ch0,ihp,ihl,ihi,rfl,rfl⟩ ?_
  rintro M s ⟨i,p,j,c,ch,hp,hl,hi,rfl,rfl⟩
  by_cases hlt:i<128
  · skip
    refine(dDo0m A B i p j hA hB hp hl hi hlt).mono ?_
    rintro e s ⟨rfl,k101101_,v011101_,j,c,ch,f2,f3,f4,rfl⟩
    exact .inl ⟨rfl,128 - (i+1),by omega,⟨(i+1),v011101_,j,c,ch,f2,f3,f4,rfl,rfl⟩⟩
  · refine (dDo0n A B i p j hA hB hp hl hi hlt).mono ?_
    intro e s hh
    obtain⟨rfl,j,c,ch,f2,rfl⟩:=hh
    exact .inr ⟨by simp,rfl,i,p,j,c,ch,f2,hl,rfl⟩
theorem dDo0o (A:List Int) (B:List Int) (p:Nat) (j:Nat→Value) (hA:By A) (hB:By B) (ihp:p=fI 0 (tmN (nL A) (nL B))) (ihl:p<2 ^ 128) (ihi:0≤128)  {c0:Prop} {ch0:List (Option Value)}:Runs Try.prog (cAt [1,1,0,1] (bdy Try.f10)) ⟨dDoD_s A B 0 p j,dDoD_m A B 0 p,c0,ch0⟩ (fun e s=>e= .normal∧∃(i:Nat) (p:Nat) (j:Nat→Value) (c:Prop) (ch:List (Option Value)),(p=fI 128 (tmN (nL A) (nL B)))∧(p<2 ^ 128)∧s=⟨dDoL_s A B i p j,dDoL_m A B i p,c,ch⟩) 0:=by
  rw[show(cAt [1,1,0,1] (bdy Try.f10))= .block 0 (.loop (cAt [1,1,0,1,0,0] (bdy Try.f10))) from by kernel_rfl]
  refine runs_block (dDo0oL A B p j hA hB ihp ihl ihi ) ?_
  rintro e s ⟨rfl,hh⟩
  exact .inl ⟨rfl,rfl,hh⟩
theorem dDo0p (A B:List Int) (p:Nat) (j:Nat→Value) (hA:By A) (hB:By B) (hp:p=(tmN (nL A) (nL B))) (hl:p<2 ^ 128)  {c0:Prop} {ch0:List (Option Value)}:Runs Try.prog (cAt [1,1,0] (bdy Try.f10)) ⟨dDoC_s A B p j,dDoC_m A B p,c0,ch0⟩ (fun e s=>e= .normal∧∃(i1:Nat) (p1:Nat) (j:Nat→Value) (c:Prop) (ch:List (Option Value)),(p1=fI 128 (tmN (nL A) (nL B)))∧(p1<2 ^ 128)∧s=⟨dDoL_s A B i1 p1 j,dDoL_m A B i1 p1,c,ch⟩) 0:=by
  rw[show(cAt [1,1,0] (bdy Try.f10))=(.seq (cAt [1,1,0,0] (bdy Try.f10)) (cAt [1,1,0,1] (bdy Try.f10))) from by kernel_rfl]
  refine runs_seq (dDo2 A B p j hA hB hp hl ) (fun s hh=> ?_) (fun e s hne hh=>absurd hh.1 hne)
  obtain⟨_,j,c,ch,f0_2,f0_4,rfl⟩:=hh
  refine(dDo0o A B p j hA hB f0_2 hl f0_4 ).mono ?_
  rintro e s ⟨rfl,i1,p1,j,c,ch,f1_2,f1_3,rfl⟩
  exact⟨rfl,i1,p1,j,c,ch,f1_2,f1_3,rfl⟩
abbrev dDoM_s (A B:List Int) (i p:Nat) (E:List Int) (j:Nat→Value):List Value:=(J j 0 4 ++ ([.pointer (some ⟨2,0,none⟩)] ++ (J j 5 47)))
abbrev dDoM_m (A B:List Int) (i p:Nat) (E:List Int):List Mb:= [((wA .u8 16 A),(22,(0,0))),((wA .u8 16 B),(22,(0,0))),((wA .u8 16 E),(22,(0,0))),((wA .i64 128 (pL p)),(47,(0,0)))]
def dDo0qp_h (i:Nat):Hn:=if i=1 then⟨6,[],[],[],[]⟩ else⟨0,[],[],[],[]⟩
def dDo0qp_b (A B:List Int) (i p:Nat) (j:Nat→Value):List Value:=(J j 0 4 ++ ([.pointer (some ⟨2,0,none⟩),.pointer (some ⟨3,0,none⟩)] ++ (J j 6 44 ++ ([.agg (wA .i64 128 (pL p)),.agg (wA .u8 16 (eL (dP (wA .i64 128 (pL p)))))]))))
theorem dDo0qp_0 (A B:List Int) (i p:Nat) (j:Nat→Value):evC (yty.en tabY1) dDo0qp_h (cAt [1,1,1] (bdy Try.f10)) ⟨dDoL_s A B i p j,dDoL_m A B i p,True,[]⟩=some (.ret,⟨dDo0qp_b A B i p j,[((wA .u8 16 A),(22,(0,0))),((wA .u8 16 B),(22,(0,0))),((wA .u8 16 (eL (dP (wA .i64 128 (pL p))))),(22,(0,0))),((wA .i64 128 (pL p)),(47,(0,0)))],(((True∧True)∧((wA .i64 128 (pL p))=wA .i64 128 (pL (dP (wA .i64 128 (pL p))))∧dP (wA .i64 128 (pL p))<2 ^ 128))∧((wA .u8 16 (eL (dP (wA .i64 128 (pL p))))).all (fun v=>v.oneCell')=true)),[]⟩):=by kernel_rfl
theorem dDo0q (A B:List Int) (i p:Nat) (j:Nat→Value) (hA:By A) (hB:By B) (hp:p=fI 128 (tmN (nL A) (nL B))) (hl:p<2 ^ 128)  {c0:Prop} {ch0:List (Option Value)}:Runs Try.prog (cAt [1,1,1] (bdy Try.f10)) ⟨dDoL_s A B i p j,dDoL_m A B i p,c0,ch0⟩ (fun e s=>e= .ret∧∃(j:Nat→Value) (c:Prop) (ch:List (Option Value)),((eL (dP (wA .i64 128 (pL p))))=dotL A B)∧s=⟨dDoM_s A B i p (eL (dP (wA .i64 128 (pL p)))) j,dDoM_m A B i p (eL (dP (wA .i64 128 (pL p)))),c,ch⟩) 0:=by
  refine(runs_ev mixed _ (dDo0qp_0 A B i p j) ⟨⟨⟨trivial,trivial⟩,pq hl⟩,(wA_one _ _ _)⟩).mono ?_
  rintro e s ⟨rfl,hs⟩
  refine⟨rfl,fun q=>s.tm.getD q undef,s.c,s.ch,by rw[dP_pL hl,dotL_eq hA hB,hp,tm_dot (nL_lt hA) (nL_lt hB)],?_⟩
  subst hs
  kernel_rfl
theorem dDou (A B:List Int) (j:Nat→Value) (hA:By A) (hB:By B)  {c0:Prop} {ch0:List (Option Value)}:Runs Try.prog (cAt [] (bdy Try.f10)) ⟨dDoA_s A B j,dDoA_m A B,c0,ch0⟩ (fun e s=>e= .ret∧∃(i12:Nat) (p12:Nat) (j:Nat→Value) (c:Prop) (ch:List (Option Value)),((eL (dP (wA .i64 128 (pL p12))))=dotL A B)∧s=⟨dDoM_s A B i12 p12 (eL (dP (wA .i64 128 (pL p12)))) j,dDoM_m A B i12 p12 (eL (dP (wA .i64 128 (pL p12)))),c,ch⟩) 0:=by
  rw[show(cAt [] (bdy Try.f10))=(.seq (cAt [0] (bdy Try.f10)) (.seq (cAt [1,0] (bdy Try.f10)) (.seq (cAt [1,1,0] (bdy Try.f10)) (cAt [1,1,1] (bdy Try.f10))))) from by kernel_rfl]
  refine runs_seq (dDo0 A B j hA hB ) (fun s hh=> ?_) (fun e s hne hh=>absurd hh.1 hne)
  obtain⟨_,j,c,ch,rfl⟩:=hh
  refine runs_seq (dDo1 A B j hA hB ) (fun s hh=> ?_) (fun e s hne hh=>absurd hh.1 hne)
  obtain⟨_,j,c,ch,f1_2,f1_3,rfl⟩:=hh
  refine runs_seq (dDo0p A B (tmN (dP (wA .i64 128 (pL (nL (dL8 (wA .u8 16 A)))))) (dP (wA .i64 128 (pL (nL (dL8 (wA .u8 16 B))))))) j hA hB f1_2 f1_3 ) (fun s hh=> ?_) (fun e s hne hh=>absurd hh.1 hne)
  obtain⟨_,i12,p12,j,c,ch,f2_2,f2_3,rfl⟩:=hh
  refine(dDo0q A B i12 p12 j hA hB f2_2 f2_3 ).mono ?_
  rintro e s ⟨rfl,j,c,ch,f3_0,rfl⟩
  exact⟨rfl,i12,p12,j,c,ch,f3_0,rfl⟩
theorem dDo_c (A B:List Int) (hA:By A) (hB:By B):Pure Try.prog 10 #[.agg (wA .u8 16 A),.agg (wA .u8 16 B)] (.agg (wA .u8 16 (dotL A B))):=by
  refine pure_runs (E:=(yty.en tabY1)) Try.func10 (c:=bdy Try.f10) (by kernel_rfl) (args:= [.agg (wA .u8 16 A),.agg (wA .u8 16 B)]) (by kernel_rfl) (K:=fun e s=>e= .ret∧resS (yty.en tabY1) s Try.f10.results.toList=some [.agg (wA .u8 16 (dotL A B))]) ?_ (fun e s h=>⟨h.1,_,h.2,rfl⟩)
  refine(dDou A B (fun _=>undef) hA hB).mono ?_
  rintro e s ⟨rfl,i,p,j,c,ch,hE,rfl⟩
  rw[← hE]
  exact⟨rfl,by kernel_rfl⟩
def pdd:Entry Try.prog:=entLL Try.func10 (by kernel_rfl) (by kernel_rfl) 16 16 (fun A B=> .agg (wA .u8 16 (dotL A B))) (fun A B h1 h2=>dDo_c A B h1 h2)
end Go.Proofs.Ytnadkbniljejfaa

set_option linter.unusedSimpArgs false
set_option linter.unusedVariables false
/-! siv: the document's POLYVAL. -/
namespace Go.Proofs.Ytnadkbniljejfaa
open Go.RowKit Go.Ev
theorem apY:ApT Try.prog 26 5 .u8 1:=⟨Try.underlying26,by kernel_rfl⟩
theorem Bk.src {a:Array Value} {t:Tq} {g:List Mb} {bp:Option Addr} {r q:Nat} (h:Bk a bp r q):SrcOk .u8 ((a,t) :: g) (.slice bp r q) (bO a bp r):=by
  obtain⟨_,⟨rfl,rfl,rfl⟩|⟨p,rfl,hb,hz⟩⟩:=h
  · exact src_nil
  · exact src_b rfl hb hz
theorem rep_cat2 {N X:List Int} {k:Nat} (h:X=N ++ List.replicate k 0):X ++ [0]=N ++ List.replicate (k+1) 0:=by
  rw[h,List.append_assoc,← List.replicate_succ']
theorem makes_one {P:Program} {f:FuncId} {m:Mb} {mem:List Mb} {args:List Value} {q:IntKind} {n:Nat} {L:List Int} {e:TypeId} {ng:Nat} (h:MakesA P f [m] args q n L e) (hm:mem[0]? =some m):MakesA P f mem args q n L e ng:=fun w β hw _=>
  h w β (fun i x hx => by
    match i,hx with
    | 0, hx =>
      simp only[List.getElem?_cons_zero,Option.some.injEq] at hx
      subst hx
      exact hw 0 _ hm
    |i+1,hx=>simp at hx) (fun i hi=>by simp at hi)
def fuL (N:List Int):List Int:=N ++ List.replicate ((16 - N.length%16)%16) 0
theorem fuL_len (N:List Int):(fuL N).length=N.length+(16 - N.length%16)%16:=by simp[fuL]
theorem fuL_at (N:List Int) (i:Nat):(fuL N).getD i 0=N.getD i 0:=by
  unfold fuL
  rw[getD_app]
  by_cases h:i<N.length
  · rw[if_pos h]
  · rw [if_neg h, List.getD_eq_getElem?_getD, List.getD_eq_getElem?_getD, List.getElem?_replicate, List.getElem?_eq_none (Nat.not_lt.1 h)]
    split<;>rfl
abbrev dFuA_s (a:Array Value) (t:Tq) (bp:Option Addr) (l cp:Nat) (N:List Int) (j:Nat→Value):List Value:=([.slice bp l cp] ++ (JU 14))
abbrev dFuA_m (a:Array Value) (t:Tq) (bp:Option Addr) (l cp:Nat) (N:List Int):List Mb:= [(a,t)]
abbrev dFuB_s (a:Array Value) (t:Tq) (bp:Option Addr) (l cp:Nat) (N:List Int) (j:Nat→Value):List Value:=([.slice bp l cp] ++ (J j 1 14))
abbrev dFuB_m (a:Array Value) (t:Tq) (bp:Option Addr) (l cp:Nat) (N:List Int):List Mb:= [(a,t)]
def dFu0p_h (i:Nat):Hn:=⟨0,[],[],[],[]⟩
def dFu0p_b (a:Array Value) (t:Tq) (bp:Option Addr) (l cp:Nat) (N:List Int) (j:Nat→Value):List Value:=([.slice bp l cp,undef,.slice none 0 0] ++ (JU 12))
theorem dFu0p_0 (a:Array Value) (t:Tq) (bp:Option Addr) (l cp:Nat) (N:List Int) (j:Nat→Value):evC (yty.enf tabV0 1) dFu0p_h (cAt [0] (bdy Try.f34)) ⟨dFuA_s a t bp l cp N j,dFuA_m a t bp l cp N,True,[]⟩=some (.normal,⟨dFu0p_b a t bp l cp N j,[(a,t)],(True∧True),[]⟩):=by kernel_rfl
theorem dFu0 (a:Array Value) (t:Tq) (bp:Option Addr) (l cp:Nat) (N:List Int) (j:Nat→Value) (hb:Bk a bp l cp) (hN:bO a bp l=N) (hNl:N.length=l) (hl:l≤1000000)  {c0:Prop} {ch0:List (Option Value)}:Runs Try.prog (cAt [0] (bdy Try.f34)) ⟨dFuA_s a t bp l cp N j,dFuA_m a t bp l cp N,c0,ch0⟩ (fun e s=>e= .normal∧∃(j:Nat→Value) (c:Prop) (ch:List (Option Value)),s=⟨dFuB_s a t bp l cp N j,dFuB_m a t bp l cp N,c,ch⟩) 1:=by
  refine(runs_ev mixed _ (dFu0p_0 a t bp l cp N j) ⟨trivial,trivial⟩).mono ?_
  rintro e s ⟨rfl,hs⟩
  refine⟨rfl,fun q=>s.tm.getD q undef,s.c,s.ch,?_⟩
  subst hs
  kernel_rfl
abbrev dFuC_s (a:Array Value) (t:Tq) (bp:Option Addr) (l cp:Nat) (N:List Int) (Z k n cap:Nat) (X:List Int) (j:Nat→Value):List Value:=(J j 0 3 ++ ([.slice (some ⟨1,0,none⟩) n cap] ++ (J j 4 11)))
abbrev dFuC_m (a:Array Value) (t:Tq) (bp:Option Addr) (l cp:Nat) (N:List Int) (Z k n cap:Nat) (X:List Int):List Mb:= [(a,t),((wA .u8 cap X),(5,(0,0)))]
def dFu1p_m (a:Array Value) (t:Tq) (bp:Option Addr) (l cp:Nat) (N:List Int) (j:Nat→Value):List Value:=([.slice bp l cp] ++ (J j 1 3 ++ ([.slice (some ⟨1,0,none⟩) 0 0,.slice bp l cp] ++ (J j 6 9))))
def dFu1p_b (a:Array Value) (t:Tq) (bp:Option Addr) (l cp:Nat) (N:List Int) (j:Nat→Value) (n1 k1 M1:Nat):List Value:=([al 1 M1 (.slice bp l cp),al 1 M1 (j 1),al 1 M1 (j 2),.slice (some ⟨1,0,none⟩) n1 k1,.slice (some ⟨M1,0,none⟩) 0 0,al 1 M1 (.slice bp l cp),.slice (some ⟨1,0,none⟩) n1 k1] ++ (JA j 1 M1 7 8))
theorem dFu1p_1 (a:Array Value) (t:Tq) (bp:Option Addr) (l cp:Nat) (N:List Int) (j:Nat→Value):evL (yty.enf tabV0 1) (oT (cAt [1,0] (bdy Try.f34))) ((oT (cAt [1,0] (bdy Try.f34))).toList.take 2) ⟨dFuB_s a t bp l cp N j,dFuB_m a t bp l cp N,True,[]⟩=some ⟨dFu1p_m a t bp l cp N j,[(a,t),((wA .u8 0 []),(5,(0,0)))],(True∧True),[]⟩:=by kernel_rfl
theorem dFu1p_2 (a:Array Value) (t:Tq) (bp:Option Addr) (l cp:Nat) (N:List Int) (j:Nat→Value) (n1 k1 M1:Nat):evL (yty.enf tabV0 1) (oT (cAt [1,0] (bdy Try.f34))) ((oT (cAt [1,0] (bdy Try.f34))).toList.drop 3) ⟨putS ((dFu1p_m a t bp l cp N j).map (al 1 M1)) (some 6) (.slice (some ⟨1,0,none⟩) n1 k1),[(a,t),((wA .u8 0 []),(5,(0,0)))].set 1 (wA .u8 k1 (([]:List Int) ++ N),5,(0,0)),True,[]⟩=some ⟨dFu1p_b a t bp l cp N j n1 k1 M1,[(a,t),((wA .u8 k1 (([]:List Int) ++ N)),(5,(0,0)))],(True∧True),[]⟩:=by kernel_rfl
theorem dFu1p_r (a:Array Value) (t:Tq) (bp:Option Addr) (l cp:Nat) (N:List Int) (j:Nat→Value)  (hb:Bk a bp l cp) (hN:bO a bp l=N) (hNl:N.length=l) (hl:l≤1000000) (hu:SrcOk .u8 [(a,t),((wA .u8 0 []),(5,(0,0)))] (.slice bp l cp) N) (hn:0=(([]:List Int)).length) (hL:(([]:List Int)).length≤0) (hb:(([]:List Int)).length+(N).length≤1099511627776) {c0:Prop} {ch0:List (Option Value)}:Runs Try.prog (cAt [1,0] (bdy Try.f34)) ⟨dFuB_s a t bp l cp N j,dFuB_m a t bp l cp N,c0,ch0⟩ (fun e s=>e= .normal∧∃ n1 k1 M1 c ch,n1=(([]:List Int)).length+(N).length∧n1≤k1∧s=⟨dFu1p_b a t bp l cp N j n1 k1 M1,[(a,t),((wA .u8 k1 (([]:List Int) ++ N)),(5,(0,0)))],c,ch⟩) 1:=
  (runs_app (E:=yty.enf tabV0 1) (c:=(cAt [1,0] (bdy Try.f34))) (x:=(.tmp 4)) (y:=(.tmp 5)) (d:=some 6) (by kernel_rfl) 2 (dFu1p_1 a t bp l cp N j) ⟨trivial,trivial⟩ (by kernel_rfl) apY apY.ht (by decide) (by decide) rfl hn rfl hL hu (by omega) (by omega) _ (dFu1p_2 a t bp l cp N j) (fun n1 k1 M1 e1 e2=>⟨trivial,trivial⟩)).mono (fun e s ⟨h1,n1,k1,M1,h2,h3,h4⟩=>⟨h1,n1,k1,M1,_,_,h2,h3,h4⟩)
theorem dFu1 (a:Array Value) (t:Tq) (bp:Option Addr) (l cp:Nat) (N:List Int) (j:Nat→Value) (hb:Bk a bp l cp) (hN:bO a bp l=N) (hNl:N.length=l) (hl:l≤1000000)  {c0:Prop} {ch0:List (Option Value)}:Runs Try.prog (cAt [1,0] (bdy Try.f34)) ⟨dFuB_s a t bp l cp N j,dFuB_m a t bp l cp N,c0,ch0⟩ (fun e s=>e= .normal∧∃(k1:Nat) (j:Nat→Value) (c:Prop) (ch:List (Option Value)),(N=N ++ List.replicate 0 0)∧(N.length=l)∧(l=l+0)∧(l≤k1)∧(((16 - l%16)%16)=(16 - l%16)%16)∧(0≤((16 - l%16)%16))∧s=⟨dFuC_s a t bp l cp N ((16 - l%16)%16) 0 l k1 N j,dFuC_m a t bp l cp N ((16 - l%16)%16) 0 l k1 N,c,ch⟩) 1:=by
  refine(dFu1p_r a t bp l cp N j hb hN hNl hl   (by subst hN;exact hb.src) rfl (by simp) (by simp only[List.length_nil];omega)).mono ?_
  rintro e s ⟨rfl,n1,k1,M1,c,ch,hn1,hk1,hs⟩
  try simp only[List.length_append,List.length_cons,List.length_nil,List.length_singleton] at hn1
  refine⟨rfl,k1,fun q=>s.tm.getD q undef,c,ch,by simp,hNl,rfl,by omega,rfl,Nat.zero_le _,?_⟩
  subst hs
  obtain rfl:n1=l:=by omega
  kernel_rfl
def dFu2p_h (i:Nat):Hn:=⟨0,[],[],[],[]⟩
def dFu2p_b (a:Array Value) (t:Tq) (bp:Option Addr) (l cp:Nat) (N:List Int) (Z k n cap:Nat) (X:List Int) (j:Nat→Value):List Value:=(J j 0 3 ++ ([.slice (some ⟨1,0,none⟩) n cap] ++ (J j 4 3 ++ ([.slice (some ⟨1,0,none⟩) n cap,.int .i64 ((n:Nat):Int),.int .i64 ((n%16:Nat):Int),.bool true] ++ (J j 11 4)))))
theorem dFu2p_0 (a:Array Value) (t:Tq) (bp:Option Addr) (l cp:Nat) (N:List Int) (Z k n cap:Nat) (X:List Int) (j:Nat→Value):evC (yty.enf tabV0 1) dFu2p_h (cAt [1,1,0,0,0,0] (bdy Try.f34)) ⟨dFuC_s a t bp l cp N Z k n cap X j,dFuC_m a t bp l cp N Z k n cap X,True,[some (.int .i64 ((n%16:Nat):Int)),some (.bool true)]⟩=some (.normal,⟨dFu2p_b a t bp l cp N Z k n cap X j,[(a,t),((wA .u8 cap X),(5,(0,0)))],((((True∧True)∧True)∧(((16:Int)≠0)∧(Int.tmod ((n:Nat):Int) 16)=((n%16:Nat):Int)))∧(True∧(!decide (((n%16:Nat):Int)=0))=true)),[]⟩):=by kernel_rfl
theorem dFu2 (a:Array Value) (t:Tq) (bp:Option Addr) (l cp:Nat) (N:List Int) (Z k n cap:Nat) (X:List Int) (j:Nat→Value) (hb:Bk a bp l cp) (hN:bO a bp l=N) (hNl:N.length=l) (hl:l≤1000000) (hX:X=N ++ List.replicate k 0) (hXl:X.length=n) (hn:n=l+k) (hc:n≤cap) (hZ:Z=(16 - l%16)%16) (hk:k≤Z) (hlt:k<Z) {c0:Prop} {ch0:List (Option Value)}:Runs Try.prog (cAt [1,1,0,0,0,0] (bdy Try.f34)) ⟨dFuC_s a t bp l cp N Z k n cap X j,dFuC_m a t bp l cp N Z k n cap X,c0,ch0⟩ (fun e s=>e= .normal∧∃(j:Nat→Value) (c:Prop) (ch:List (Option Value)),s=⟨dFuC_s a t bp l cp N Z k n cap X j,dFuC_m a t bp l cp N Z k n cap X,c,ch⟩) 1:=by
  have h0:(!decide (((n%16:Nat):Int)=0))=true:=(neT (by omega))
  refine(runs_ev mixed _ (dFu2p_0 a t bp l cp N Z k n cap X j) ⟨⟨⟨⟨trivial,trivial⟩,trivial⟩,⟨(by decide),(by exact tmodN n 16)⟩⟩,⟨trivial,h0⟩⟩).mono ?_
  rintro e s ⟨rfl,hs⟩
  refine⟨rfl,fun q=>s.tm.getD q undef,s.c,s.ch,?_⟩
  subst hs
  kernel_rfl
abbrev dFuD_s (a:Array Value) (t:Tq) (bp:Option Addr) (l cp:Nat) (N:List Int) (Z k n cap:Nat) (X:List Int) (j:Nat→Value):List Value:=(J j 0 3 ++ ([.slice (some ⟨1,0,none⟩) n cap] ++ (J j 4 11)))
abbrev dFuD_m (a:Array Value) (t:Tq) (bp:Option Addr) (l cp:Nat) (N:List Int) (Z k n cap:Nat) (X:List Int):List Mb:= [(a,t),((wA .u8 cap X),(5,(0,0)))]
def dFu3p_h (i:Nat):Hn:=⟨0,[],[],[],[]⟩
def dFu3p_b (a:Array Value) (t:Tq) (bp:Option Addr) (l cp:Nat) (N:List Int) (Z k n cap:Nat) (X:List Int) (j:Nat→Value):List Value:=(J j 0 3 ++ ([.slice (some ⟨1,0,none⟩) n cap] ++ (J j 4 3 ++ ([.slice (some ⟨1,0,none⟩) n cap,.int .i64 ((n:Nat):Int),.int .i64 ((n%16:Nat):Int),.bool false] ++ (J j 11 4)))))
theorem dFu3p_0 (a:Array Value) (t:Tq) (bp:Option Addr) (l cp:Nat) (N:List Int) (Z k n cap:Nat) (X:List Int) (j:Nat→Value):evC (yty.enf tabV0 1) dFu3p_h (cAt [1,1,0,0,0,0] (bdy Try.f34)) ⟨dFuC_s a t bp l cp N Z k n cap X j,dFuC_m a t bp l cp N Z k n cap X,True,[some (.int .i64 ((n%16:Nat):Int)),some (.bool false)]⟩=some ((.exit 0),⟨dFu3p_b a t bp l cp N Z k n cap X j,[(a,t),((wA .u8 cap X),(5,(0,0)))],((((True∧True)∧True)∧(((16:Int)≠0)∧(Int.tmod ((n:Nat):Int) 16)=((n%16:Nat):Int)))∧(True∧(!decide (((n%16:Nat):Int)=0))=false)),[]⟩):=by kernel_rfl
theorem dFu3 (a:Array Value) (t:Tq) (bp:Option Addr) (l cp:Nat) (N:List Int) (Z k n cap:Nat) (X:List Int) (j:Nat→Value) (hb:Bk a bp l cp) (hN:bO a bp l=N) (hNl:N.length=l) (hl:l≤1000000) (hX:X=N ++ List.replicate k 0) (hXl:X.length=n) (hn:n=l+k) (hc:n≤cap) (hZ:Z=(16 - l%16)%16) (hk:k≤Z) (hge:¬ k<Z) {c0:Prop} {ch0:List (Option Value)}:Runs Try.prog (cAt [1,1,0,0,0,0] (bdy Try.f34)) ⟨dFuC_s a t bp l cp N Z k n cap X j,dFuC_m a t bp l cp N Z k n cap X,c0,ch0⟩ (fun e s=>e=(.exit 0)∧∃(j:Nat→Value) (c:Prop) (ch:List (Option Value)),(k=Z)∧s=⟨dFuD_s a t bp l cp N Z k n cap X j,dFuD_m a t bp l cp N Z k n cap X,c,ch⟩) 1:=by
  have h0:(!decide (((n%16:Nat):Int)=0))=false:=(neF (by omega))
  refine(runs_ev mixed _ (dFu3p_0 a t bp l cp N Z k n cap X j) ⟨⟨⟨⟨trivial,trivial⟩,trivial⟩,⟨(by decide),(by exact tmodN n 16)⟩⟩,⟨trivial,h0⟩⟩).mono ?_
  rintro e s ⟨rfl,hs⟩
  refine⟨rfl,fun q=>s.tm.getD q undef,s.c,s.ch,by omega,?_⟩
  subst hs
  kernel_rfl
def dFu4p_m (a:Array Value) (t:Tq) (bp:Option Addr) (l cp:Nat) (N:List Int) (Z k n cap:Nat) (X:List Int) (j:Nat→Value):List Value:=(J j 0 3 ++ ([.slice (some ⟨1,0,none⟩) n cap] ++ (J j 4 7 ++ ([.slice (some ⟨1,0,none⟩) n cap,.slice (some ⟨2,0,none⟩) 1 1,j 13,j 14]))))
def dFu4p_b (a:Array Value) (t:Tq) (bp:Option Addr) (l cp:Nat) (N:List Int) (Z k n cap:Nat) (X:List Int) (j:Nat→Value) (n1 k1 M1:Nat):List Value:=(JA j 1 M1 0 3 ++ ([.slice (some ⟨1,0,none⟩) n1 k1] ++ (JA j 1 M1 4 7 ++ ([.slice (some ⟨M1,0,none⟩) n cap,.slice (some ⟨2,0,none⟩) 1 1,.slice (some ⟨1,0,none⟩) n1 k1,al 1 M1 (j 14)]))))
theorem dFu4p_1 (a:Array Value) (t:Tq) (bp:Option Addr) (l cp:Nat) (N:List Int) (Z k n cap:Nat) (X:List Int) (j:Nat→Value):evL (yty.enf tabV0 1) (oT (cAt [1,1,0,0,0,1,0] (bdy Try.f34))) ((oT (cAt [1,1,0,0,0,1,0] (bdy Try.f34))).toList.take 2) ⟨dFuC_s a t bp l cp N Z k n cap X j,dFuC_m a t bp l cp N Z k n cap X,True,[]⟩=some ⟨dFu4p_m a t bp l cp N Z k n cap X j,[(a,t),((wA .u8 cap X),(5,(0,0))),((wA .u8 1 [0]),(5,(0,0)))],(True∧True),[]⟩:=by kernel_rfl
theorem dFu4p_2 (a:Array Value) (t:Tq) (bp:Option Addr) (l cp:Nat) (N:List Int) (Z k n cap:Nat) (X:List Int) (j:Nat→Value) (n1 k1 M1:Nat):evL (yty.enf tabV0 1) (oT (cAt [1,1,0,0,0,1,0] (bdy Try.f34))) ((oT (cAt [1,1,0,0,0,1,0] (bdy Try.f34))).toList.drop 3) ⟨putS ((dFu4p_m a t bp l cp N Z k n cap X j).map (al 1 M1)) (some 13) (.slice (some ⟨1,0,none⟩) n1 k1),[(a,t),((wA .u8 cap X),(5,(0,0))),((wA .u8 1 [0]),(5,(0,0)))].set 1 (wA .u8 k1 (X ++ ([0]:List Int)),5,(0,0)),True,[]⟩=some ⟨dFu4p_b a t bp l cp N Z k n cap X j n1 k1 M1,[(a,t),((wA .u8 k1 (X ++ ([0]:List Int))),(5,(0,0))),((wA .u8 1 [0]),(5,(0,0)))],(True∧True),[]⟩:=by kernel_rfl
theorem dFu4p_r (a:Array Value) (t:Tq) (bp:Option Addr) (l cp:Nat) (N:List Int) (Z k n cap:Nat) (X:List Int) (j:Nat→Value)  (hb:Bk a bp l cp) (hN:bO a bp l=N) (hNl:N.length=l) (hl:l≤1000000) (hX:X=N ++ List.replicate k 0) (hXl:X.length=n) (hn:n=l+k) (hc:n≤cap) (hZ:Z=(16 - l%16)%16) (hk:k≤Z) (hlt:k<Z) (hu:SrcOk .u8 [(a,t),((wA .u8 cap X),(5,(0,0))),((wA .u8 1 [0]),(5,(0,0)))] (.slice (some ⟨2,0,none⟩) 1 1) ([0]:List Int)) (hn:n=(X).length) (hL:(X).length≤cap) (hb:(X).length+(([0]:List Int)).length≤1099511627776) {c0:Prop} {ch0:List (Option Value)}:Runs Try.prog (cAt [1,1,0,0,0,1,0] (bdy Try.f34)) ⟨dFuC_s a t bp l cp N Z k n cap X j,dFuC_m a t bp l cp N Z k n cap X,c0,ch0⟩ (fun e s=>e= .normal∧∃ n1 k1 M1 c ch,n1=(X).length+(([0]:List Int)).length∧n1≤k1∧s=⟨dFu4p_b a t bp l cp N Z k n cap X j n1 k1 M1,[(a,t),((wA .u8 k1 (X ++ ([0]:List Int))),(5,(0,0))),((wA .u8 1 [0]),(5,(0,0)))],c,ch⟩) 1:=
  (runs_app (E:=yty.enf tabV0 1) (c:=(cAt [1,1,0,0,0,1,0] (bdy Try.f34))) (x:=(.tmp 11)) (y:=(.tmp 12)) (d:=some 13) (by kernel_rfl) 2 (dFu4p_1 a t bp l cp N Z k n cap X j) ⟨trivial,trivial⟩ (by kernel_rfl) apY apY.ht (by decide) (by decide) rfl hn rfl hL hu (by omega) (by omega) _ (dFu4p_2 a t bp l cp N Z k n cap X j) (fun n1 k1 M1 e1 e2=>⟨trivial,trivial⟩)).mono (fun e s ⟨h1,n1,k1,M1,h2,h3,h4⟩=>⟨h1,n1,k1,M1,_,_,h2,h3,h4⟩)
theorem dFu4 (a:Array Value) (t:Tq) (bp:Option Addr) (l cp:Nat) (N:List Int) (Z k n cap:Nat) (X:List Int) (j:Nat→Value) (hb:Bk a bp l cp) (hN:bO a bp l=N) (hNl:N.length=l) (hl:l≤1000000) (hX:X=N ++ List.replicate k 0) (hXl:X.length=n) (hn:n=l+k) (hc:n≤cap) (hZ:Z=(16 - l%16)%16) (hk:k≤Z) (hlt:k<Z) {c0:Prop} {ch0:List (Option Value)}:Runs Try.prog (cAt [1,1,0,0,0,1,0] (bdy Try.f34)) ⟨dFuC_s a t bp l cp N Z k n cap X j,dFuC_m a t bp l cp N Z k n cap X,c0,ch0⟩ (fun e s=>e= .normal∧∃(k1:Nat) (j:Nat→Value) (c:Prop) (ch:List (Option Value)),((X ++ [0])=N ++ List.replicate (k+1) 0)∧((X ++ [0]).length=(n+1))∧((n+1)=l+(k+1))∧((n+1)≤k1)∧((k+1)≤Z)∧s=⟨dFuC_s a t bp l cp N Z (k+1) (n+1) k1 (X ++ [0]) j,dFuC_m a t bp l cp N Z (k+1) (n+1) k1 (X ++ [0]),c,ch⟩) 1:=by
  refine Runs.dropG (dFu4p_r a t bp l cp N Z k n cap X j hb hN hNl hl hX hXl hn hc hZ hk hlt  (src_wA (i:=2) rfl rfl (by decide)) (by omega) (by omega) (by simp only[List.length_cons,List.length_nil];omega)) ?_
  rintro e s ⟨rfl,n1,k1,M1,c,ch,hn1,hk1,hs⟩
  try simp only[List.length_append,List.length_cons,List.length_nil,List.length_singleton] at hn1
  refine⟨s.mem.take 2,s.mem.drop 2,(List.take_append_drop 2 _).symm,by subst hs;simp[big],fun M2=>⟨rfl,k1,fun q=>(s.tm.map (dn (s.mem.take 2).length M2)).getD q undef,c,ch,rep_cat2 hX,by simp only[List.length_append,List.length_cons,List.length_nil];omega,by omega,by omega,by omega,?_⟩⟩
  subst hs
  obtain rfl:n1=n+1:=by omega
  kernel_rfl
theorem dFu5 (a:Array Value) (t:Tq) (bp:Option Addr) (l cp:Nat) (N:List Int) (Z k n cap:Nat) (X:List Int) (j:Nat→Value) (hb:Bk a bp l cp) (hN:bO a bp l=N) (hNl:N.length=l) (hl:l≤1000000) (hX:X=N ++ List.replicate k 0) (hXl:X.length=n) (hn:n=l+k) (hc:n≤cap) (hZ:Z=(16 - l%16)%16) (hk:k≤Z) (hlt:k<Z) {c0:Prop} {ch0:List (Option Value)}:Runs Try.prog (cAt [1,1,0,0,0,1] (bdy Try.f34)) ⟨dFuC_s a t bp l cp N Z k n cap X j,dFuC_m a t bp l cp N Z k n cap X,c0,ch0⟩ (fun e s=>e= .normal∧∃(k1:Nat) (j:Nat→Value) (c:Prop) (ch:List (Option Value)),((X ++ [0])=N ++ List.replicate (k+1) 0)∧((X ++ [0]).length=(n+1))∧((n+1)=l+(k+1))∧((n+1)≤k1)∧((k+1)≤Z)∧s=⟨dFuC_s a t bp l cp N Z (k+1) (n+1) k1 (X ++ [0]) j,dFuC_m a t bp l cp N Z (k+1) (n+1) k1 (X ++ [0]),c,ch⟩) 1:=by
  rw[show(cAt [1,1,0,0,0,1] (bdy Try.f34))= .block 1 (cAt [1,1,0,0,0,1,0] (bdy Try.f34)) from by kernel_rfl]
  refine runs_block (dFu4 a t bp l cp N Z k n cap X j hb hN hNl hl hX hXl hn hc hZ hk hlt) ?_
  rintro e s ⟨rfl,hh⟩
  exact .inr (.inl ⟨rfl,rfl,hh⟩)
theorem dFu6 (a:Array Value) (t:Tq) (bp:Option Addr) (l cp:Nat) (N:List Int) (Z k n cap:Nat) (X:List Int) (j:Nat→Value) (hb:Bk a bp l cp) (hN:bO a bp l=N) (hNl:N.length=l) (hl:l≤1000000) (hX:X=N ++ List.replicate k 0) (hXl:X.length=n) (hn:n=l+k) (hc:n≤cap) (hZ:Z=(16 - l%16)%16) (hk:k≤Z) (hlt:k<Z) {c0:Prop} {ch0:List (Option Value)}:Runs Try.prog (cAt [1,1,0,0,0] (bdy Try.f34)) ⟨dFuC_s a t bp l cp N Z k n cap X j,dFuC_m a t bp l cp N Z k n cap X,c0,ch0⟩ (fun e s=>e= .normal∧∃(k11:Nat) (j:Nat→Value) (c:Prop) (ch:List (Option Value)),((X ++ [0])=N ++ List.replicate (k+1) 0)∧((X ++ [0]).length=(n+1))∧((n+1)=l+(k+1))∧((n+1)≤k11)∧((k+1)≤Z)∧s=⟨dFuC_s a t bp l cp N Z (k+1) (n+1) k11 (X ++ [0]) j,dFuC_m a t bp l cp N Z (k+1) (n+1) k11 (X ++ [0]),c,ch⟩) 1:=by
  rw[show(cAt [1,1,0,0,0] (bdy Try.f34))=(.seq (cAt [1,1,0,0,0,0] (bdy Try.f34)) (cAt [1,1,0,0,0,1] (bdy Try.f34))) from by kernel_rfl]
  refine runs_seq (dFu2 a t bp l cp N Z k n cap X j hb hN hNl hl hX hXl hn hc hZ hk hlt) (fun s hh=> ?_) (fun e s hne hh=>absurd hh.1 hne)
  obtain⟨_,j,c,ch,rfl⟩:=hh
  refine(dFu5 a t bp l cp N Z k n cap X j hb hN hNl hl hX hXl hn hc hZ hk hlt).mono ?_
  rintro e s ⟨rfl,k11,j,c,ch,f1_4,f1_5,f1_6,f1_7,f1_9,rfl⟩
  exact⟨rfl,k11,j,c,ch,f1_4,f1_5,f1_6,f1_7,f1_9,rfl⟩
theorem dFu7L (a:Array Value) (t:Tq) (bp:Option Addr) (l:Nat) (cp:Nat) (N:List Int) (Z:Nat) (cap:Nat) (j:Nat→Value) (hb:Bk a bp l cp) (hN:bO a bp l=N) (hNl:N.length=l) (hl:l≤1000000) (ihX:N=N ++ List.replicate 0 0) (ihXl:N.length=l) (ihn:l=l+0) (ihc:l≤cap) (hZ:Z=(16 - l%16)%16) (ihk:0≤Z)  {c0:Prop} {ch0:List (Option Value)}:Runs Try.prog (.loop (cAt [1,1,0,0,0] (bdy Try.f34))) ⟨dFuC_s a t bp l cp N Z 0 l cap N j,dFuC_m a t bp l cp N Z 0 l cap N,c0,ch0⟩ (fun e s=>e= .exit 0∧∃(k:Nat) (n:Nat) (cap:Nat) (X:List Int) (j:Nat→Value) (c:Prop) (ch:List (Option Value)),(X=N ++ List.replicate k 0)∧(X.length=n)∧(n=l+k)∧(n≤cap)∧(k=Z)∧s=⟨dFuD_s a t bp l cp N Z k n cap X j,dFuD_m a t bp l cp N Z k n cap X,c,ch⟩) 1:=by
  refine runs_loop (fun M s=>∃(k:Nat) (n:Nat) (cap:Nat) (X:List Int) (j:Nat→Value) (c:Prop) (ch:List (Option Value)),(X=N ++ List.replicate k 0)∧(X.length=n)∧(n=l+k)∧(n≤cap)∧(k≤Z)∧M=Z - k∧s=⟨dFuC_s a t bp l cp N Z k n cap X j,dFuC_m a t bp l cp N Z k n cap X,c,ch⟩) (Z - 0) ⟨0,l,cap,N,j,c0,ch0,ihX,ihXl,ihn,ihc,ihk,rfl,rfl⟩ ?_
  rintro M s ⟨k,n,cap,X,j,c,ch,hX,hXl,hn,hc,hk,rfl,rfl⟩
  by_cases hlt:k<Z
  · skip
    refine(dFu6 a t bp l cp N Z k n cap X j hb hN hNl hl hX hXl hn hc hZ hk hlt).mono ?_
    rintro e s ⟨rfl,k11_,j,c,ch,f4,f5,f6,f7,f9,rfl⟩
    exact .inl ⟨rfl,Z - (k+1),by omega,⟨(k+1),(n+1),k11_,(X ++ [0]),j,c,ch,f4,f5,f6,f7,f9,rfl,rfl⟩⟩
  · rw [show (cAt [1, 1, 0, 0, 0] (bdy Try.f34)) = .seq (cAt [1, 1, 0, 0, 0, 0] (bdy Try.f34)) (cAt [1, 1, 0, 0, 0, 1] (bdy Try.f34)) from by kernel_rfl]
    refine runs_seq (dFu3 a t bp l cp N Z k n cap X j hb hN hNl hl hX hXl hn hc hZ hk hlt) (fun s hh=>absurd hh.1 (by simp)) (fun e s hne hh=> ?_)
    obtain⟨rfl,j,c,ch,f9,rfl⟩:=hh
    exact .inr ⟨by simp,rfl,k,n,cap,X,j,c,ch,hX,hXl,hn,hc,f9,rfl⟩
theorem dFu7 (a:Array Value) (t:Tq) (bp:Option Addr) (l:Nat) (cp:Nat) (N:List Int) (Z:Nat) (cap:Nat) (j:Nat→Value) (hb:Bk a bp l cp) (hN:bO a bp l=N) (hNl:N.length=l) (hl:l≤1000000) (ihX:N=N ++ List.replicate 0 0) (ihXl:N.length=l) (ihn:l=l+0) (ihc:l≤cap) (hZ:Z=(16 - l%16)%16) (ihk:0≤Z)  {c0:Prop} {ch0:List (Option Value)}:Runs Try.prog (cAt [1,1,0] (bdy Try.f34)) ⟨dFuC_s a t bp l cp N Z 0 l cap N j,dFuC_m a t bp l cp N Z 0 l cap N,c0,ch0⟩ (fun e s=>e= .normal∧∃(k:Nat) (n:Nat) (cap:Nat) (X:List Int) (j:Nat→Value) (c:Prop) (ch:List (Option Value)),(X=N ++ List.replicate k 0)∧(X.length=n)∧(n=l+k)∧(n≤cap)∧(k=Z)∧s=⟨dFuD_s a t bp l cp N Z k n cap X j,dFuD_m a t bp l cp N Z k n cap X,c,ch⟩) 1:=by
  rw[show(cAt [1,1,0] (bdy Try.f34))= .block 0 (.loop (cAt [1,1,0,0,0] (bdy Try.f34))) from by kernel_rfl]
  refine runs_block (dFu7L a t bp l cp N Z cap j hb hN hNl hl ihX ihXl ihn ihc hZ ihk ) ?_
  rintro e s ⟨rfl,hh⟩
  exact .inl ⟨rfl,rfl,hh⟩
abbrev dFuE_s (a:Array Value) (t:Tq) (bp:Option Addr) (l cp:Nat) (N:List Int) (Z k n cap:Nat) (X:List Int) (j:Nat→Value):List Value:=([j 0,j 1,.slice (some ⟨1,0,none⟩) n cap] ++ (J j 3 12))
abbrev dFuE_m (a:Array Value) (t:Tq) (bp:Option Addr) (l cp:Nat) (N:List Int) (Z k n cap:Nat) (X:List Int):List Mb:= [(a,t),((wA .u8 cap X),(5,(0,0)))]
def dFu8p_h (i:Nat):Hn:=⟨0,[],[],[],[]⟩
def dFu8p_b (a:Array Value) (t:Tq) (bp:Option Addr) (l cp:Nat) (N:List Int) (Z k n cap:Nat) (X:List Int) (j:Nat→Value):List Value:=([j 0,j 1,.slice (some ⟨1,0,none⟩) n cap,.slice (some ⟨1,0,none⟩) n cap] ++ (J j 4 10 ++ ([.slice (some ⟨1,0,none⟩) n cap])))
theorem dFu8p_0 (a:Array Value) (t:Tq) (bp:Option Addr) (l cp:Nat) (N:List Int) (Z k n cap:Nat) (X:List Int) (j:Nat→Value):evC (yty.enf tabV0 1) dFu8p_h (cAt [1,1,1] (bdy Try.f34)) ⟨dFuD_s a t bp l cp N Z k n cap X j,dFuD_m a t bp l cp N Z k n cap X,True,[]⟩=some (.ret,⟨dFu8p_b a t bp l cp N Z k n cap X j,[(a,t),((wA .u8 cap X),(5,(0,0)))],((True∧True)∧True),[]⟩):=by kernel_rfl
theorem dFu8 (a:Array Value) (t:Tq) (bp:Option Addr) (l cp:Nat) (N:List Int) (Z k n cap:Nat) (X:List Int) (j:Nat→Value) (hb:Bk a bp l cp) (hN:bO a bp l=N) (hNl:N.length=l) (hl:l≤1000000) (hX:X=N ++ List.replicate k 0) (hXl:X.length=n) (hn:n=l+k) (hc:n≤cap) (hZ:Z=(16 - l%16)%16) (hk:k=Z)  {c0:Prop} {ch0:List (Option Value)}:Runs Try.prog (cAt [1,1,1] (bdy Try.f34)) ⟨dFuD_s a t bp l cp N Z k n cap X j,dFuD_m a t bp l cp N Z k n cap X,c0,ch0⟩ (fun e s=>e= .ret∧∃(j:Nat→Value) (c:Prop) (ch:List (Option Value)),s=⟨dFuE_s a t bp l cp N Z k n cap X j,dFuE_m a t bp l cp N Z k n cap X,c,ch⟩) 1:=by
  refine(runs_ev mixed _ (dFu8p_0 a t bp l cp N Z k n cap X j) ⟨⟨trivial,trivial⟩,trivial⟩).mono ?_
  rintro e s ⟨rfl,hs⟩
  refine⟨rfl,fun q=>s.tm.getD q undef,s.c,s.ch,?_⟩
  subst hs
  kernel_rfl
theorem dFuu (a:Array Value) (t:Tq) (bp:Option Addr) (l cp:Nat) (N:List Int) (j:Nat→Value) (hb:Bk a bp l cp) (hN:bO a bp l=N) (hNl:N.length=l) (hl:l≤1000000)  {c0:Prop} {ch0:List (Option Value)}:Runs Try.prog (cAt [] (bdy Try.f34)) ⟨dFuA_s a t bp l cp N j,dFuA_m a t bp l cp N,c0,ch0⟩ (fun e s=>e= .ret∧∃(k11:Nat) (k2:Nat) (n2:Nat) (cap2:Nat) (X2:List Int) (j:Nat→Value) (c:Prop) (ch:List (Option Value)),(X2=N ++ List.replicate k2 0)∧(X2.length=n2)∧(n2=l+k2)∧(n2≤cap2)∧(((16 - l%16)%16)=(16 - l%16)%16)∧(k2=((16 - l%16)%16))∧s=⟨dFuE_s a t bp l cp N ((16 - l%16)%16) k2 n2 cap2 X2 j,dFuE_m a t bp l cp N ((16 - l%16)%16) k2 n2 cap2 X2,c,ch⟩) 1:=by
  rw[show(cAt [] (bdy Try.f34))=(.seq (cAt [0] (bdy Try.f34)) (.seq (cAt [1,0] (bdy Try.f34)) (.seq (cAt [1,1,0] (bdy Try.f34)) (cAt [1,1,1] (bdy Try.f34))))) from by kernel_rfl]
  refine runs_seq (dFu0 a t bp l cp N j hb hN hNl hl ) (fun s hh=> ?_) (fun e s hne hh=>absurd hh.1 hne)
  obtain⟨_,j,c,ch,rfl⟩:=hh
  refine runs_seq (dFu1 a t bp l cp N j hb hN hNl hl ) (fun s hh=> ?_) (fun e s hne hh=>absurd hh.1 hne)
  obtain⟨_,k11,j,c,ch,f1_4,f1_5,f1_6,f1_7,f1_8,f1_9,rfl⟩:=hh
  refine runs_seq (dFu7 a t bp l cp N ((16 - l%16)%16) k11 j hb hN hNl hl f1_4 f1_5 f1_6 f1_7 f1_8 f1_9 ) (fun s hh=> ?_) (fun e s hne hh=>absurd hh.1 hne)
  obtain⟨_,k2,n2,cap2,X2,j,c,ch,f2_4,f2_5,f2_6,f2_7,f2_9,rfl⟩:=hh
  refine(dFu8 a t bp l cp N ((16 - l%16)%16) k2 n2 cap2 X2 j hb hN hNl hl f2_4 f2_5 f2_6 f2_7 f1_8 f2_9 ).mono ?_
  rintro e s ⟨rfl,j,c,ch,rfl⟩
  exact⟨rfl,k11,k2,n2,cap2,X2,j,c,ch,f2_4,f2_5,f2_6,f2_7,f1_8,f2_9,rfl⟩
theorem dFu_c (a:Array Value) (t:Tq) (bp:Option Addr) (l cp:Nat) (hb:Bk a bp l cp) (hl:l≤1000000):MakesA Try.prog 34 [(a,t)] [.slice bp l cp] .u8 (fuL (bO a bp l)).length (fuL (bO a bp l)) 5:=
  makesA_runs (fk:=1) Try.func34 (c:=bdy Try.f34) (by kernel_rfl) ⟨rfl,by decide⟩ (args:= [.slice bp l cp]) (by obtain⟨_,⟨rfl,rfl,_⟩|⟨p,rfl,_,_⟩⟩:=hb<;>kernel_rfl) (r:=2) (by kernel_rfl) (dFuu a t bp l cp (bO a bp l) (fun _=>undef) hb rfl (bO_len hb) hl) (fun e s h=>by
    obtain⟨rfl,k1,k,n,cap,X,j,c,ch,hX,hXl,hn,hc,_,hk,rfl⟩:=h
    have e:X=fuL (bO a bp l):=by
      rw[hX,hk]
      unfold fuL
      rw[bO_len hb]
    have e2:n=(fuL (bO a bp l)).length:=by rw[← e,hXl]
    refine⟨rfl,1,cap,by decide,by rw[← e2];exact hc,?_,?_⟩
    · rw[← e2];rfl
    · rw[← e];rfl)
theorem absN_end (H:List Int):∀(n:Nat) (S L:List Int),absN H (n+1) S L=dotL (xr (absN H n S L) (L.drop (16*n))) H
  |0,S,L=>rfl
  | n + 1, S, L => by
    rw[absN,absN_end H n,absN,List.drop_drop,show 16+16*n=16*(n+1) by omega]
theorem drop_at (L:List Int) (n i:Nat):(L.drop n).getD i 0=L.getD (n+i) 0:=by
  rw[List.getD_eq_getElem?_getD,List.getElem?_drop,← List.getD_eq_getElem?_getD]
theorem absN_cong (H:List Int):∀(n:Nat) (S L Y:List Int),(∀ i,L.getD i 0=Y.getD i 0)→absN H n S L=absN H n S Y
  |0,_,_,_,_=>rfl
  | n + 1, S, L, Y, h => by
    have e:xr S L=xr S Y:=List.map_congr_left fun i _=>by rw[h i]
    rw[absN,absN,e]
    exact absN_cong H n _ _ _ fun i=>by rw[drop_at,drop_at,h]
theorem absL_full (H N:List Int):wA .u8 16 (absN H ((fuL N).length / 16) [] (fuL N))=wA .u8 16 (absL H [] N):=by
  unfold absL
  rw[absN_n,absN_cong H _ [] _ N (fuL_at N),show(fuL N).length / 16=(N.length+15) / 16 by rw[fuL_len];omega]
theorem xrv_xr (S B:List Int):xrv S B 16=xr S B:=List.map_congr_left fun i hi=>by
  have hi:i<16:=by simpa using hi
  rw[if_pos hi]
abbrev dPvA_s (a:Array Value) (t:Tq) (H N:List Int) (bp:Option Addr) (l cp:Nat) (j:Nat→Value):List Value:=([.agg (wA .u8 16 H),.slice bp l cp] ++ (JU 35))
abbrev dPvA_m (a:Array Value) (t:Tq) (H N:List Int) (bp:Option Addr) (l cp:Nat):List Mb:= [(a,t)]
abbrev dPvB_s (a:Array Value) (t:Tq) (H N:List Int) (bp:Option Addr) (l cp:Nat) (j:Nat→Value):List Value:=([j 0,.slice bp l cp,.pointer (some ⟨1,0,none⟩),j 3,.pointer (some ⟨2,0,none⟩)] ++ (J j 5 32))
abbrev dPvB_m (a:Array Value) (t:Tq) (H N:List Int) (bp:Option Addr) (l cp:Nat):List Mb:= [(a,t),((wA .u8 16 H),(22,(0,0))),((wA .u8 16 []),(22,(0,0)))]
def dPv0p_h (i:Nat):Hn:=if i=9 then⟨12,[],[],[],[]⟩ else⟨0,[],[],[],[]⟩
def dPv0p_b (a:Array Value) (t:Tq) (H N:List Int) (bp:Option Addr) (l cp:Nat) (j:Nat→Value):List Value:=([.agg (wA .u8 16 H),.slice bp l cp,.pointer (some ⟨1,0,none⟩),undef,.pointer (some ⟨2,0,none⟩)] ++ (JU 32))
theorem dPv0p_0 (a:Array Value) (t:Tq) (H N:List Int) (bp:Option Addr) (l cp:Nat) (j:Nat→Value):evC (yty.enf (pdd :: []) 1) dPv0p_h (cAt [0] (bdy Try.f17)) ⟨dPvA_s a t H N bp l cp j,dPvA_m a t H N bp l cp,True,[]⟩=some (.normal,⟨dPv0p_b a t H N bp l cp j,[(a,t),((wA .u8 16 H),(22,(0,0))),((wA .u8 16 []),(22,(0,0)))],True,[]⟩):=by kernel_rfl
theorem dPv0 (a:Array Value) (t:Tq) (H N:List Int) (bp:Option Addr) (l cp:Nat) (j:Nat→Value) (hH:By H) (hN:By N) (hb:Bk a bp l cp) (hbN:bO a bp l=N) (hl:l≤1000000)  {c0:Prop} {ch0:List (Option Value)}:Runs Try.prog (cAt [0] (bdy Try.f17)) ⟨dPvA_s a t H N bp l cp j,dPvA_m a t H N bp l cp,c0,ch0⟩ (fun e s=>e= .normal∧∃(j:Nat→Value) (c:Prop) (ch:List (Option Value)),s=⟨dPvB_s a t H N bp l cp j,dPvB_m a t H N bp l cp,c,ch⟩) 1:=by
  refine(runs_ev mixed _ (dPv0p_0 a t H N bp l cp j) trivial).mono ?_
  rintro e s ⟨rfl,hs⟩
  refine⟨rfl,fun q=>s.tm.getD q undef,s.c,s.ch,?_⟩
  subst hs
  kernel_rfl
abbrev dPvC_s (a:Array Value) (t:Tq) (H N:List Int) (bp:Option Addr) (l cp:Nat) (j:Nat→Value):List Value:=([j 0,.slice bp l cp,.pointer (some ⟨1,0,none⟩),j 3,.pointer (some ⟨2,0,none⟩),.pointer (some ⟨3,0,none⟩)] ++ (J j 6 31))
abbrev dPvC_m (a:Array Value) (t:Tq) (H N:List Int) (bp:Option Addr) (l cp:Nat):List Mb:= [(a,t),((wA .u8 16 H),(22,(0,0))),((wA .u8 16 []),(22,(0,0))),((wA .u8 16 []),(22,(0,0)))]
def dPv1p_h (i:Nat):Hn:=if i=9 then⟨12,[],[],[],[]⟩ else⟨0,[],[],[],[]⟩
def dPv1p_b (a:Array Value) (t:Tq) (H N:List Int) (bp:Option Addr) (l cp:Nat) (j:Nat→Value):List Value:=([j 0,.slice bp l cp,.pointer (some ⟨1,0,none⟩),j 3,.pointer (some ⟨2,0,none⟩),.pointer (some ⟨3,0,none⟩)] ++ (J j 6 31))
theorem dPv1p_0 (a:Array Value) (t:Tq) (H N:List Int) (bp:Option Addr) (l cp:Nat) (j:Nat→Value):evC (yty.enf (pdd :: []) 1) dPv1p_h (cAt [1,0] (bdy Try.f17)) ⟨dPvB_s a t H N bp l cp j,dPvB_m a t H N bp l cp,True,[]⟩=some (.normal,⟨dPv1p_b a t H N bp l cp j,[(a,t),((wA .u8 16 H),(22,(0,0))),((wA .u8 16 []),(22,(0,0))),((wA .u8 16 []),(22,(0,0)))],True,[]⟩):=by kernel_rfl
theorem dPv1 (a:Array Value) (t:Tq) (H N:List Int) (bp:Option Addr) (l cp:Nat) (j:Nat→Value) (hH:By H) (hN:By N) (hb:Bk a bp l cp) (hbN:bO a bp l=N) (hl:l≤1000000)  {c0:Prop} {ch0:List (Option Value)}:Runs Try.prog (cAt [1,0] (bdy Try.f17)) ⟨dPvB_s a t H N bp l cp j,dPvB_m a t H N bp l cp,c0,ch0⟩ (fun e s=>e= .normal∧∃(j:Nat→Value) (c:Prop) (ch:List (Option Value)),s=⟨dPvC_s a t H N bp l cp j,dPvC_m a t H N bp l cp,c,ch⟩) 1:=by
  refine(runs_ev mixed _ (dPv1p_0 a t H N bp l cp j) trivial).mono ?_
  rintro e s ⟨rfl,hs⟩
  refine⟨rfl,fun q=>s.tm.getD q undef,s.c,s.ch,?_⟩
  subst hs
  kernel_rfl
abbrev dPvD_s (a:Array Value) (t:Tq) (H N:List Int) (bp:Option Addr) (l cp:Nat) (n cap:Nat) (j:Nat→Value):List Value:=([j 0,j 1,.pointer (some ⟨1,0,none⟩),j 3,.pointer (some ⟨2,0,none⟩),.pointer (some ⟨3,0,none⟩),.slice (some ⟨4,0,none⟩) n cap] ++ (J j 7 30))
abbrev dPvD_m (a:Array Value) (t:Tq) (H N:List Int) (bp:Option Addr) (l cp:Nat) (n cap:Nat):List Mb:= [(a,t),((wA .u8 16 H),(22,(0,0))),((wA .u8 16 []),(22,(0,0))),((wA .u8 16 []),(22,(0,0))),((wA .u8 cap (fuL N)),(5,(0,0)))]
def dPv2p_m (a:Array Value) (t:Tq) (H N:List Int) (bp:Option Addr) (l cp:Nat) (j:Nat→Value):List Value:=([j 0,.slice bp l cp,.pointer (some ⟨1,0,none⟩),j 3,.pointer (some ⟨2,0,none⟩),.pointer (some ⟨3,0,none⟩)] ++ (J j 6 3 ++ ([.slice bp l cp] ++ (J j 10 27))))
def dPv2p_b (a:Array Value) (t:Tq) (H N:List Int) (bp:Option Addr) (l cp:Nat) (j:Nat→Value) (k1:Nat):List Value:=([j 0,.slice bp l cp,.pointer (some ⟨1,0,none⟩),j 3,.pointer (some ⟨2,0,none⟩),.pointer (some ⟨3,0,none⟩),.slice (some ⟨4,0,none⟩) (fuL N).length k1,j 7,j 8,.slice bp l cp,.slice (some ⟨4,0,none⟩) (fuL N).length k1] ++ (J j 11 26))
theorem dPv2p_1 (a:Array Value) (t:Tq) (H N:List Int) (bp:Option Addr) (l cp:Nat) (j:Nat→Value):evL (yty.enf (pdd :: []) 1) (oT (cAt [1,1,0] (bdy Try.f17))) ((oT (cAt [1,1,0] (bdy Try.f17))).toList.take 1) ⟨dPvC_s a t H N bp l cp j,dPvC_m a t H N bp l cp,True,[]⟩=some ⟨dPv2p_m a t H N bp l cp j,[(a,t),((wA .u8 16 H),(22,(0,0))),((wA .u8 16 []),(22,(0,0))),((wA .u8 16 []),(22,(0,0)))],(True∧True),[]⟩:=by kernel_rfl
theorem dPv2p_2 (a:Array Value) (t:Tq) (H N:List Int) (bp:Option Addr) (l cp:Nat) (j:Nat→Value) (k1:Nat):evL (yty.enf (pdd :: []) 1) (oT (cAt [1,1,0] (bdy Try.f17))) ((oT (cAt [1,1,0] (bdy Try.f17))).toList.drop 2) ⟨putS (dPv2p_m a t H N bp l cp j) (some 10) (.slice (some ⟨4,0,none⟩) ((fuL N).length) k1),[(a,t),((wA .u8 16 H),(22,(0,0))),((wA .u8 16 []),(22,(0,0))),((wA .u8 16 []),(22,(0,0)))] ++ [(wA .u8 k1 (fuL N),5,(0,0))],True,[]⟩=some ⟨dPv2p_b a t H N bp l cp j k1,[(a,t),((wA .u8 16 H),(22,(0,0))),((wA .u8 16 []),(22,(0,0))),((wA .u8 16 []),(22,(0,0))),((wA .u8 k1 (fuL N)),(5,(0,0)))],(True∧True),[]⟩:=by kernel_rfl
theorem dPv2p_r (a:Array Value) (t:Tq) (H N:List Int) (bp:Option Addr) (l cp:Nat) (j:Nat→Value)  (hH:By H) (hN:By N) (hb:Bk a bp l cp) (hbN:bO a bp l=N) (hl:l≤1000000) (hM:MakesA Try.prog 34 [(a,t),((wA .u8 16 H),(22,(0,0))),((wA .u8 16 []),(22,(0,0))),((wA .u8 16 []),(22,(0,0)))] [.slice bp l cp] .u8 ((fuL N).length) (fuL N) 5 0) {c0:Prop} {ch0:List (Option Value)}:Runs Try.prog (cAt [1,1,0] (bdy Try.f17)) ⟨dPvC_s a t H N bp l cp j,dPvC_m a t H N bp l cp,c0,ch0⟩ (fun e s=>e= .normal∧∃ k1 c ch,((fuL N)).length≤k1∧s=⟨dPv2p_b a t H N bp l cp j k1,[(a,t),((wA .u8 16 H),(22,(0,0))),((wA .u8 16 []),(22,(0,0))),((wA .u8 16 []),(22,(0,0))),((wA .u8 k1 (fuL N)),(5,(0,0)))],c,ch⟩) 1:=
  (runs_call (E:=yty.enf (pdd :: []) 1) (c:=(cAt [1,1,0] (bdy Try.f17))) (f:=34) (xs:= [.tmp 9]) (d:=some 10) (by kernel_rfl) 1 (dPv2p_1 a t H N bp l cp j) ⟨trivial,trivial⟩ (by kernel_rfl) (call_of Try.func34 (by kernel_rfl) (by kernel_rfl)) rfl hM rfl (of_decide_eq_true (by kernel_rfl)) _ (dPv2p_2 a t H N bp l cp j) (fun k1 e2=>⟨trivial,trivial⟩)).mono (fun e s ⟨h1,k1,h3,h4⟩=>⟨h1,k1,_,_,h3,h4⟩)
theorem dPv2 (a:Array Value) (t:Tq) (H N:List Int) (bp:Option Addr) (l cp:Nat) (j:Nat→Value) (hH:By H) (hN:By N) (hb:Bk a bp l cp) (hbN:bO a bp l=N) (hl:l≤1000000)  {c0:Prop} {ch0:List (Option Value)}:Runs Try.prog (cAt [1,1,0] (bdy Try.f17)) ⟨dPvC_s a t H N bp l cp j,dPvC_m a t H N bp l cp,c0,ch0⟩ (fun e s=>e= .normal∧∃(k1:Nat) (j:Nat→Value) (c:Prop) (ch:List (Option Value)),(((fuL N).length)=(fuL N).length)∧(((fuL N).length)≤k1)∧(((fuL N).length)%16=0)∧(((fuL N).length)≤2000000)∧s=⟨dPvD_s a t H N bp l cp ((fuL N).length) k1 j,dPvD_m a t H N bp l cp ((fuL N).length) k1,c,ch⟩) 1:=by
  refine(dPv2p_r a t H N bp l cp j hH hN hb hbN hl   (by have h:=dFu_c a t bp l cp hb hl;rw[hbN] at h;exact makes_one h rfl)).mono ?_
  rintro e s ⟨rfl,k1,c,ch,hk1,hs⟩
  refine⟨rfl,k1,fun q=>s.tm.getD q undef,c,ch,rfl,hk1,by rw[fuL_len];omega,by rw[fuL_len,← hbN,bO_len hb];omega,?_⟩
  subst hs
  kernel_rfl
abbrev dPvE_s (a:Array Value) (t:Tq) (H N:List Int) (bp:Option Addr) (l cp:Nat) (n cap:Nat) (q:Nat) (S:List Int) (j:Nat→Value):List Value:=([j 0,j 1,.pointer (some ⟨1,0,none⟩),j 3,.pointer (some ⟨2,0,none⟩),.pointer (some ⟨3,0,none⟩),.slice (some ⟨4,0,none⟩) n cap,.int .i64 ((16*q:Nat):Int)] ++ (J j 8 29))
abbrev dPvE_m (a:Array Value) (t:Tq) (H N:List Int) (bp:Option Addr) (l cp:Nat) (n cap:Nat) (q:Nat) (S:List Int):List Mb:= [(a,t),((wA .u8 16 H),(22,(0,0))),((wA .u8 16 []),(22,(0,0))),((wA .u8 16 S),(22,(0,0))),((wA .u8 cap (fuL N)),(5,(0,0)))]
def dPv3p_h (i:Nat):Hn:=if i=9 then⟨12,[],[],[],[]⟩ else⟨0,[],[],[],[]⟩
def dPv3p_b (a:Array Value) (t:Tq) (H N:List Int) (bp:Option Addr) (l cp:Nat) (n cap:Nat) (j:Nat→Value):List Value:=([j 0,j 1,.pointer (some ⟨1,0,none⟩),j 3,.pointer (some ⟨2,0,none⟩),.pointer (some ⟨3,0,none⟩),.slice (some ⟨4,0,none⟩) n cap,.int .i64 0] ++ (J j 8 29))
theorem dPv3p_0 (a:Array Value) (t:Tq) (H N:List Int) (bp:Option Addr) (l cp:Nat) (n cap:Nat) (j:Nat→Value):evC (yty.enf (pdd :: []) 1) dPv3p_h (cAt [1,1,1,0,0] (bdy Try.f17)) ⟨dPvD_s a t H N bp l cp n cap j,dPvD_m a t H N bp l cp n cap,True,[]⟩=some (.normal,⟨dPv3p_b a t H N bp l cp n cap j,[(a,t),((wA .u8 16 H),(22,(0,0))),((wA .u8 16 []),(22,(0,0))),((wA .u8 16 []),(22,(0,0))),((wA .u8 cap (fuL N)),(5,(0,0)))],(True∧True),[]⟩):=by kernel_rfl
theorem dPv3 (a:Array Value) (t:Tq) (H N:List Int) (bp:Option Addr) (l cp:Nat) (n cap:Nat) (j:Nat→Value) (hH:By H) (hN:By N) (hb:Bk a bp l cp) (hbN:bO a bp l=N) (hl:l≤1000000) (hn:n=(fuL N).length) (hc:n≤cap) (h16:n%16=0) (hnl:n≤2000000)  {c0:Prop} {ch0:List (Option Value)}:Runs Try.prog (cAt [1,1,1,0,0] (bdy Try.f17)) ⟨dPvD_s a t H N bp l cp n cap j,dPvD_m a t H N bp l cp n cap,c0,ch0⟩ (fun e s=>e= .normal∧∃(j:Nat→Value) (c:Prop) (ch:List (Option Value)),(([]:List Int)=absN H 0 [] (fuL N))∧(0≤n / 16)∧s=⟨dPvE_s a t H N bp l cp n cap 0 ([]:List Int) j,dPvE_m a t H N bp l cp n cap 0 ([]:List Int),c,ch⟩) 1:=by
  refine(runs_ev mixed _ (dPv3p_0 a t H N bp l cp n cap j) ⟨trivial,trivial⟩).mono ?_
  rintro e s ⟨rfl,hs⟩
  refine⟨rfl,fun q=>s.tm.getD q undef,s.c,s.ch,rfl,by omega,?_⟩
  subst hs
  kernel_rfl
abbrev dPvF_s (a:Array Value) (t:Tq) (H N:List Int) (bp:Option Addr) (l cp:Nat) (n cap:Nat) (q:Nat) (S:List Int) (j:Nat→Value):List Value:=([j 0,j 1,.pointer (some ⟨1,0,none⟩),j 3,.pointer (some ⟨2,0,none⟩),.pointer (some ⟨3,0,none⟩),.slice (some ⟨4,0,none⟩) n cap,.int .i64 ((16*q:Nat):Int)] ++ (J j 8 29))
abbrev dPvF_m (a:Array Value) (t:Tq) (H N:List Int) (bp:Option Addr) (l cp:Nat) (n cap:Nat) (q:Nat) (S:List Int):List Mb:= [(a,t),((wA .u8 16 H),(22,(0,0))),((wA .u8 16 []),(22,(0,0))),((wA .u8 16 S),(22,(0,0))),((wA .u8 cap (fuL N)),(5,(0,0)))]
def dPv4p_h (i:Nat):Hn:=if i=9 then⟨12,[],[],[],[]⟩ else⟨0,[],[],[],[]⟩
def dPv4p_b (a:Array Value) (t:Tq) (H N:List Int) (bp:Option Addr) (l cp:Nat) (n cap:Nat) (q:Nat) (S:List Int) (j:Nat→Value):List Value:=([j 0,j 1,.pointer (some ⟨1,0,none⟩),j 3,.pointer (some ⟨2,0,none⟩),.pointer (some ⟨3,0,none⟩),.slice (some ⟨4,0,none⟩) n cap,.int .i64 ((16*q:Nat):Int)] ++ (J j 8 3 ++ ([.int .i64 ((16*q:Nat):Int),.slice (some ⟨4,0,none⟩) n cap,.int .i64 ((n:Nat):Int),.bool true] ++ (J j 15 22))))
theorem dPv4p_0 (a:Array Value) (t:Tq) (H N:List Int) (bp:Option Addr) (l cp:Nat) (n cap:Nat) (q:Nat) (S:List Int) (j:Nat→Value):evC (yty.enf (pdd :: []) 1) dPv4p_h (cAt [1,1,1,0,1,0,0,0] (bdy Try.f17)) ⟨dPvE_s a t H N bp l cp n cap q S j,dPvE_m a t H N bp l cp n cap q S,True,[some (.bool true)]⟩=some (.normal,⟨dPv4p_b a t H N bp l cp n cap q S j,[(a,t),((wA .u8 16 H),(22,(0,0))),((wA .u8 16 []),(22,(0,0))),((wA .u8 16 S),(22,(0,0))),((wA .u8 cap (fuL N)),(5,(0,0)))],((((True∧True)∧True)∧True)∧(True∧(decide (((16*q:Nat):Int)<((n:Nat):Int)))=true)),[]⟩):=by kernel_rfl
theorem dPv4 (a:Array Value) (t:Tq) (H N:List Int) (bp:Option Addr) (l cp:Nat) (n cap:Nat) (q:Nat) (S:List Int) (j:Nat→Value) (hH:By H) (hN:By N) (hb:Bk a bp l cp) (hbN:bO a bp l=N) (hl:l≤1000000) (hn:n=(fuL N).length) (hc:n≤cap) (h16:n%16=0) (hnl:n≤2000000) (hS:S=absN H q [] (fuL N)) (hq:q≤n / 16) (hlt:q<n / 16) {c0:Prop} {ch0:List (Option Value)}:Runs Try.prog (cAt [1,1,1,0,1,0,0,0] (bdy Try.f17)) ⟨dPvE_s a t H N bp l cp n cap q S j,dPvE_m a t H N bp l cp n cap q S,c0,ch0⟩ (fun e s=>e= .normal∧∃(j:Nat→Value) (c:Prop) (ch:List (Option Value)),(q<n / 16)∧s=⟨dPvF_s a t H N bp l cp n cap q S j,dPvF_m a t H N bp l cp n cap q S,c,ch⟩) 1:=by
  have h0:(decide (((16*q:Nat):Int)<((n:Nat):Int)))=true:=(decide_eq_true (by omega))
  refine(runs_ev mixed _ (dPv4p_0 a t H N bp l cp n cap q S j) ⟨⟨⟨⟨trivial,trivial⟩,trivial⟩,trivial⟩,⟨trivial,h0⟩⟩).mono ?_
  rintro e s ⟨rfl,hs⟩
  refine⟨rfl,fun q=>s.tm.getD q undef,s.c,s.ch,hlt,?_⟩
  subst hs
  kernel_rfl
abbrev dPvG_s (a:Array Value) (t:Tq) (H N:List Int) (bp:Option Addr) (l cp:Nat) (n cap:Nat) (q:Nat) (S:List Int) (k:Nat) (j:Nat→Value):List Value:=([j 0,j 1,.pointer (some ⟨1,0,none⟩),j 3,.pointer (some ⟨2,0,none⟩),.pointer (some ⟨3,0,none⟩),.slice (some ⟨4,0,none⟩) n cap,.int .i64 ((16*q:Nat):Int),.int .i64 ((k:Nat):Int)] ++ (J j 9 28))
abbrev dPvG_m (a:Array Value) (t:Tq) (H N:List Int) (bp:Option Addr) (l cp:Nat) (n cap:Nat) (q:Nat) (S:List Int) (k:Nat):List Mb:= [(a,t),((wA .u8 16 H),(22,(0,0))),((wA .u8 16 []),(22,(0,0))),((wA .u8 16 (xrv S ((fuL N).drop (16*q)) k)),(22,(0,0))),((wA .u8 cap (fuL N)),(5,(0,0)))]
def dPv5p_h (i:Nat):Hn:=if i=9 then⟨12,[],[],[],[]⟩ else⟨0,[],[],[],[]⟩
def dPv5p_b (a:Array Value) (t:Tq) (H N:List Int) (bp:Option Addr) (l cp:Nat) (n cap:Nat) (q:Nat) (S:List Int) (j:Nat→Value):List Value:=([j 0,j 1,.pointer (some ⟨1,0,none⟩),j 3,.pointer (some ⟨2,0,none⟩),.pointer (some ⟨3,0,none⟩),.slice (some ⟨4,0,none⟩) n cap,.int .i64 ((16*q:Nat):Int),.int .i64 0] ++ (J j 9 28))
theorem dPv5p_0 (a:Array Value) (t:Tq) (H N:List Int) (bp:Option Addr) (l cp:Nat) (n cap:Nat) (q:Nat) (S:List Int) (j:Nat→Value):evC (yty.enf (pdd :: []) 1) dPv5p_h (cAt [1,1,1,0,1,0,0,1,0,0,0,0] (bdy Try.f17)) ⟨dPvF_s a t H N bp l cp n cap q S j,dPvF_m a t H N bp l cp n cap q S,True,[]⟩=some (.normal,⟨dPv5p_b a t H N bp l cp n cap q S j,[(a,t),((wA .u8 16 H),(22,(0,0))),((wA .u8 16 []),(22,(0,0))),((wA .u8 16 S),(22,(0,0))),((wA .u8 cap (fuL N)),(5,(0,0)))],(True∧True),[]⟩):=by kernel_rfl
theorem dPv5 (a:Array Value) (t:Tq) (H N:List Int) (bp:Option Addr) (l cp:Nat) (n cap:Nat) (q:Nat) (S:List Int) (j:Nat→Value) (hH:By H) (hN:By N) (hb:Bk a bp l cp) (hbN:bO a bp l=N) (hl:l≤1000000) (hn:n=(fuL N).length) (hc:n≤cap) (h16:n%16=0) (hnl:n≤2000000) (hS:S=absN H q [] (fuL N)) (hq:q≤n / 16) (hq1:q<n / 16)  {c0:Prop} {ch0:List (Option Value)}:Runs Try.prog (cAt [1,1,1,0,1,0,0,1,0,0,0,0] (bdy Try.f17)) ⟨dPvF_s a t H N bp l cp n cap q S j,dPvF_m a t H N bp l cp n cap q S,c0,ch0⟩ (fun e s=>e= .normal∧∃(j:Nat→Value) (c:Prop) (ch:List (Option Value)),(0≤16)∧s=⟨dPvG_s a t H N bp l cp n cap q S 0 j,dPvG_m a t H N bp l cp n cap q S 0,c,ch⟩) 1:=by
  refine(runs_ev mixed _ (dPv5p_0 a t H N bp l cp n cap q S j) ⟨trivial,trivial⟩).mono ?_
  rintro e s ⟨rfl,hs⟩
  refine⟨rfl,fun q=>s.tm.getD q undef,s.c,s.ch,by omega,?_⟩
  subst hs
  rw[xrv_0 S ((fuL N).drop (16*q))]
  kernel_rfl
def dPv6p_h (i:Nat):Hn:=if i=9 then⟨12,[],[],[],[]⟩ else⟨0,[],[],[],[]⟩
def dPv6p_b (a:Array Value) (t:Tq) (H N:List Int) (bp:Option Addr) (l cp:Nat) (n cap:Nat) (q:Nat) (S:List Int) (k:Nat) (j:Nat→Value):List Value:=([j 0,j 1,.pointer (some ⟨1,0,none⟩),j 3,.pointer (some ⟨2,0,none⟩),.pointer (some ⟨3,0,none⟩),.slice (some ⟨4,0,none⟩) n cap,.int .i64 ((16*q:Nat):Int),.int .i64 ((k+1:Nat):Int)] ++ (J j 9 8 ++ ([.int .i64 ((k:Nat):Int),.bool true,.int .i64 ((k:Nat):Int),.int .i64 ((k+1:Nat):Int),.int .i64 ((k:Nat):Int),.int .i64 ((k:Nat):Int),.pointer (some ⟨3,0+Int.toNat ((k:Nat):Int)*1,none⟩),.int .u8 ((xrv S ((fuL N).drop (16*q)) k).getD k 0),.slice (some ⟨4,0,none⟩) n cap,.int .i64 ((16*q:Nat):Int),.int .i64 ((k:Nat):Int),.int .i64 ((16*q+k:Nat):Int),.pointer (some ⟨4,0+Int.toNat ((16*q+k:Nat):Int)*1,none⟩),.int .u8 ((fuL N).getD (16*q+k) 0),.int .u8 (bits .xor .u8 ((xrv S ((fuL N).drop (16*q)) k).getD k 0) ((fuL N).getD (16*q+k) 0)),.pointer (some ⟨3,0+Int.toNat ((k:Nat):Int)*1,none⟩)] ++ (J j 33 4))))
theorem dPv6p_0 (a:Array Value) (t:Tq) (H N:List Int) (bp:Option Addr) (l cp:Nat) (n cap:Nat) (q:Nat) (S:List Int) (k:Nat) (j:Nat→Value):evC (yty.enf (pdd :: []) 1) dPv6p_h (cAt [1,1,1,0,1,0,0,1,0,0,0,1,0,0] (bdy Try.f17)) ⟨dPvG_s a t H N bp l cp n cap q S k j,dPvG_m a t H N bp l cp n cap q S k,True,[some (.bool true),some (.int .u8 ((xrv S ((fuL N).drop (16*q)) k).getD k 0)),some (.int .i64 ((16*q+k:Nat):Int)),some (.int .u8 ((fuL N).getD (16*q+k) 0)),none,some (.agg (wA .u8 16 (xrv S ((fuL N).drop (16*q)) (k+1)))),some (.int .i64 ((k+1:Nat):Int))]⟩=some (.normal,⟨dPv6p_b a t H N bp l cp n cap q S k j,[(a,t),((wA .u8 16 H),(22,(0,0))),((wA .u8 16 []),(22,(0,0))),((wA .u8 16 (xrv S ((fuL N).drop (16*q)) (k+1))),(22,(0,0))),((wA .u8 cap (fuL N)),(5,(0,0)))],((((((((((((((((((True∧True)∧(True∧(decide (((k:Nat):Int)<16))=true))∧True)∧True)∧(0≤((k:Nat):Int)∧((k:Nat):Int)<((16:Nat):Int)))∧(((wA .u8 16 (xrv S ((fuL N).drop (16*q)) k))[(0+Int.toNat ((k:Nat):Int)*1)]? =some (.int .u8 ((xrv S ((fuL N).drop (16*q)) k).getD k 0)))∧((xrv S ((fuL N).drop (16*q)) k).getD k 0)=((xrv S ((fuL N).drop (16*q)) k).getD k 0)))∧True)∧True)∧True)∧(True∧(IntKind.i64.wrap (((16*q:Nat):Int)+((k:Nat):Int)))=((16*q+k:Nat):Int)))∧((0:Int)≤((16*q+k:Nat):Int)∧(((16*q+k:Nat):Int):Int)<((n:Nat):Int)))∧(((wA .u8 cap (fuL N))[(0+Int.toNat ((16*q+k:Nat):Int)*1)]? =some (.int .u8 ((fuL N).getD (16*q+k) 0)))∧((fuL N).getD (16*q+k) 0)=((fuL N).getD (16*q+k) 0)))∧True)∧(0≤((k:Nat):Int)∧((k:Nat):Int)<((16:Nat):Int)))∧((0+Int.toNat ((k:Nat):Int)*1)<(wA .u8 16 (xrv S ((fuL N).drop (16*q)) k)).size∧(wA .u8 16 (xrv S ((fuL N).drop (16*q)) k)).setIfInBounds (0+Int.toNat ((k:Nat):Int)*1) (.int .u8 (bits .xor .u8 ((xrv S ((fuL N).drop (16*q)) k).getD k 0) ((fuL N).getD (16*q+k) 0)))=(wA .u8 16 (xrv S ((fuL N).drop (16*q)) (k+1)))))∧True)∧(True∧(IntKind.i64.wrap (((k:Nat):Int)+1))=((k+1:Nat):Int)))∧True),[]⟩):=by kernel_rfl
theorem dPv6 (a:Array Value) (t:Tq) (H N:List Int) (bp:Option Addr) (l cp:Nat) (n cap:Nat) (q:Nat) (S:List Int) (k:Nat) (j:Nat→Value) (hH:By H) (hN:By N) (hb:Bk a bp l cp) (hbN:bO a bp l=N) (hl:l≤1000000) (hn:n=(fuL N).length) (hc:n≤cap) (h16:n%16=0) (hnl:n≤2000000) (hS:S=absN H q [] (fuL N)) (hq:q≤n / 16) (hq1:q<n / 16) (hk:k≤16) (hlt:k<16) {c0:Prop} {ch0:List (Option Value)}:Runs Try.prog (cAt [1,1,1,0,1,0,0,1,0,0,0,1,0,0] (bdy Try.f17)) ⟨dPvG_s a t H N bp l cp n cap q S k j,dPvG_m a t H N bp l cp n cap q S k,c0,ch0⟩ (fun e s=>e= .normal∧∃(j:Nat→Value) (c:Prop) (ch:List (Option Value)),((k+1)≤16)∧s=⟨dPvG_s a t H N bp l cp n cap q S (k+1) j,dPvG_m a t H N bp l cp n cap q S (k+1),c,ch⟩) 1:=by
  have h0:(decide (((k:Nat):Int)<16))=true:=(decide_eq_true (by omega))
  refine(runs_ev mixed _ (dPv6p_0 a t H N bp l cp n cap q S k j) ⟨⟨⟨⟨⟨⟨⟨⟨⟨⟨⟨⟨⟨⟨⟨⟨⟨⟨trivial,trivial⟩,⟨trivial,h0⟩⟩,trivial⟩,trivial⟩,(by(try simp only[Int.toNat_natCast,wA_size]);omega)⟩,⟨(wA_get (by omega) (by omega)),rfl⟩⟩,trivial⟩,trivial⟩,trivial⟩,⟨trivial,(by rw[IntKind.wrap_i64];omega)⟩⟩,(by(try simp only[Int.toNat_natCast,wA_size]);omega)⟩,⟨(wA_get (by omega) (by omega)),rfl⟩⟩,trivial⟩,(by(try simp only[Int.toNat_natCast,wA_size]);omega)⟩,⟨by rw[wA_size];omega,by rw[wA_putE (p:=k) (by omega) (by omega),← xrv_step hlt rfl,drop_at]⟩⟩,trivial⟩,⟨trivial,(by rw[IntKind.wrap_i64];omega)⟩⟩,trivial⟩).mono ?_
  rintro e s ⟨rfl,hs⟩
  refine⟨rfl,fun q=>s.tm.getD q undef,s.c,s.ch,by omega,?_⟩
  subst hs
  kernel_rfl
abbrev dPvH_s (a:Array Value) (t:Tq) (H N:List Int) (bp:Option Addr) (l cp:Nat) (n cap:Nat) (q:Nat) (S:List Int) (k:Nat) (j:Nat→Value):List Value:=([j 0,j 1,.pointer (some ⟨1,0,none⟩),j 3,.pointer (some ⟨2,0,none⟩),.pointer (some ⟨3,0,none⟩),.slice (some ⟨4,0,none⟩) n cap,.int .i64 ((16*q:Nat):Int)] ++ (J j 8 29))
abbrev dPvH_m (a:Array Value) (t:Tq) (H N:List Int) (bp:Option Addr) (l cp:Nat) (n cap:Nat) (q:Nat) (S:List Int) (k:Nat):List Mb:= [(a,t),((wA .u8 16 H),(22,(0,0))),((wA .u8 16 []),(22,(0,0))),((wA .u8 16 (xr S ((fuL N).drop (16*q)))),(22,(0,0))),((wA .u8 cap (fuL N)),(5,(0,0)))]
def dPv7p_h (i:Nat):Hn:=if i=9 then⟨12,[],[],[],[]⟩ else⟨0,[],[],[],[]⟩
def dPv7p_b (a:Array Value) (t:Tq) (H N:List Int) (bp:Option Addr) (l cp:Nat) (n cap:Nat) (q:Nat) (S:List Int) (k:Nat) (j:Nat→Value):List Value:=([j 0,j 1,.pointer (some ⟨1,0,none⟩),j 3,.pointer (some ⟨2,0,none⟩),.pointer (some ⟨3,0,none⟩),.slice (some ⟨4,0,none⟩) n cap,.int .i64 ((16*q:Nat):Int),.int .i64 ((k:Nat):Int)] ++ (J j 9 8 ++ ([.int .i64 ((k:Nat):Int),.bool false] ++ (J j 19 18))))
theorem dPv7p_0 (a:Array Value) (t:Tq) (H N:List Int) (bp:Option Addr) (l cp:Nat) (n cap:Nat) (q:Nat) (S:List Int) (k:Nat) (j:Nat→Value):evC (yty.enf (pdd :: []) 1) dPv7p_h (cAt [1,1,1,0,1,0,0,1,0,0,0,1,0,0] (bdy Try.f17)) ⟨dPvG_s a t H N bp l cp n cap q S k j,dPvG_m a t H N bp l cp n cap q S k,True,[some (.bool false)]⟩=some ((.exit 2),⟨dPv7p_b a t H N bp l cp n cap q S k j,[(a,t),((wA .u8 16 H),(22,(0,0))),((wA .u8 16 []),(22,(0,0))),((wA .u8 16 (xrv S ((fuL N).drop (16*q)) k)),(22,(0,0))),((wA .u8 cap (fuL N)),(5,(0,0)))],((True∧True)∧(True∧(decide (((k:Nat):Int)<16))=false)),[]⟩):=by kernel_rfl
theorem dPv7 (a:Array Value) (t:Tq) (H N:List Int) (bp:Option Addr) (l cp:Nat) (n cap:Nat) (q:Nat) (S:List Int) (k:Nat) (j:Nat→Value) (hH:By H) (hN:By N) (hb:Bk a bp l cp) (hbN:bO a bp l=N) (hl:l≤1000000) (hn:n=(fuL N).length) (hc:n≤cap) (h16:n%16=0) (hnl:n≤2000000) (hS:S=absN H q [] (fuL N)) (hq:q≤n / 16) (hq1:q<n / 16) (hk:k≤16) (hge:¬ k<16) {c0:Prop} {ch0:List (Option Value)}:Runs Try.prog (cAt [1,1,1,0,1,0,0,1,0,0,0,1,0,0] (bdy Try.f17)) ⟨dPvG_s a t H N bp l cp n cap q S k j,dPvG_m a t H N bp l cp n cap q S k,c0,ch0⟩ (fun e s=>e=(.exit 2)∧∃(j:Nat→Value) (c:Prop) (ch:List (Option Value)),s=⟨dPvH_s a t H N bp l cp n cap q S k j,dPvH_m a t H N bp l cp n cap q S k,c,ch⟩) 1:=by
  have h0:(decide (((k:Nat):Int)<16))=false:=(decide_eq_false (by omega))
  refine(runs_ev mixed _ (dPv7p_0 a t H N bp l cp n cap q S k j) ⟨⟨trivial,trivial⟩,⟨trivial,h0⟩⟩).mono ?_
  rintro e s ⟨rfl,hs⟩
  refine⟨rfl,fun q=>s.tm.getD q undef,s.c,s.ch,?_⟩
  subst hs
  rw[show k=16 by omega,xrv_xr]
  kernel_rfl
theorem dPv8L (a:Array Value) (t:Tq) (H:List Int) (N:List Int) (bp:Option Addr) (l:Nat) (cp:Nat) (n:Nat) (cap:Nat) (q:Nat) (S:List Int) (j:Nat→Value) (hH:By H) (hN:By N) (hb:Bk a bp l cp) (hbN:bO a bp l=N) (hl:l≤1000000) (hn:n=(fuL N).length) (hc:n≤cap) (h16:n%16=0) (hnl:n≤2000000) (hS:S=absN H q [] (fuL N)) (hq:q≤n / 16) (hq1:q<n / 16) (ihk:0≤16)  {c0:Prop} {ch0:List (Option Value)}:Runs Try.prog (.loop (cAt [1,1,1,0,1,0,0,1,0,0,0,1,0,0] (bdy Try.f17))) ⟨dPvG_s a t H N bp l cp n cap q S 0 j,dPvG_m a t H N bp l cp n cap q S 0,c0,ch0⟩ (fun e s=>e= .exit 2∧∃(k:Nat) (j:Nat→Value) (c:Prop) (ch:List (Option Value)),s=⟨dPvH_s a t H N bp l cp n cap q S k j,dPvH_m a t H N bp l cp n cap q S k,c,ch⟩) 1:=by
  refine runs_loop (fun M s=>∃(k:Nat) (j:Nat→Value) (c:Prop) (ch:List (Option Value)),(k≤16)∧M=16 - k∧s=⟨dPvG_s a t H N bp l cp n cap q S k j,dPvG_m a t H N bp l cp n cap q S k,c,ch⟩) (16 - 0) ⟨0,j,c0,ch0,ihk,rfl,rfl⟩ ?_
  rintro M s ⟨k,j,c,ch,hk,rfl,rfl⟩
  by_cases hlt:k<16
  · skip
    refine(dPv6 a t H N bp l cp n cap q S k j hH hN hb hbN hl hn hc h16 hnl hS hq hq1 hk hlt).mono ?_
    rintro e s ⟨rfl,j,c,ch,f12,rfl⟩
    exact .inl ⟨rfl,16 - (k+1),by omega,⟨(k+1),j,c,ch,f12,rfl,rfl⟩⟩
  · refine (dPv7 a t H N bp l cp n cap q S k j hH hN hb hbN hl hn hc h16 hnl hS hq hq1 hk hlt).mono ?_
    intro e s hh
    obtain⟨rfl,j,c,ch,rfl⟩:=hh
    exact .inr ⟨by simp,rfl,k,j,c,ch,rfl⟩
theorem dPv8 (a:Array Value) (t:Tq) (H:List Int) (N:List Int) (bp:Option Addr) (l:Nat) (cp:Nat) (n:Nat) (cap:Nat) (q:Nat) (S:List Int) (j:Nat→Value) (hH:By H) (hN:By N) (hb:Bk a bp l cp) (hbN:bO a bp l=N) (hl:l≤1000000) (hn:n=(fuL N).length) (hc:n≤cap) (h16:n%16=0) (hnl:n≤2000000) (hS:S=absN H q [] (fuL N)) (hq:q≤n / 16) (hq1:q<n / 16) (ihk:0≤16)  {c0:Prop} {ch0:List (Option Value)}:Runs Try.prog (cAt [1,1,1,0,1,0,0,1,0,0,0,1] (bdy Try.f17)) ⟨dPvG_s a t H N bp l cp n cap q S 0 j,dPvG_m a t H N bp l cp n cap q S 0,c0,ch0⟩ (fun e s=>e= .normal∧∃(k:Nat) (j:Nat→Value) (c:Prop) (ch:List (Option Value)),s=⟨dPvH_s a t H N bp l cp n cap q S k j,dPvH_m a t H N bp l cp n cap q S k,c,ch⟩) 1:=by
  rw[show(cAt [1,1,1,0,1,0,0,1,0,0,0,1] (bdy Try.f17))= .block 2 (.loop (cAt [1,1,1,0,1,0,0,1,0,0,0,1,0,0] (bdy Try.f17))) from by kernel_rfl]
  refine runs_block (dPv8L a t H N bp l cp n cap q S j hH hN hb hbN hl hn hc h16 hnl hS hq hq1 ihk ) ?_
  rintro e s ⟨rfl,hh⟩
  exact .inl ⟨rfl,rfl,hh⟩
theorem dPv9 (a:Array Value) (t:Tq) (H N:List Int) (bp:Option Addr) (l cp:Nat) (n cap:Nat) (q:Nat) (S:List Int) (j:Nat→Value) (hH:By H) (hN:By N) (hb:Bk a bp l cp) (hbN:bO a bp l=N) (hl:l≤1000000) (hn:n=(fuL N).length) (hc:n≤cap) (h16:n%16=0) (hnl:n≤2000000) (hS:S=absN H q [] (fuL N)) (hq:q≤n / 16) (hq1:q<n / 16)  {c0:Prop} {ch0:List (Option Value)}:Runs Try.prog (cAt [1,1,1,0,1,0,0,1,0,0,0] (bdy Try.f17)) ⟨dPvF_s a t H N bp l cp n cap q S j,dPvF_m a t H N bp l cp n cap q S,c0,ch0⟩ (fun e s=>e= .normal∧∃(k1:Nat) (j:Nat→Value) (c:Prop) (ch:List (Option Value)),s=⟨dPvH_s a t H N bp l cp n cap q S k1 j,dPvH_m a t H N bp l cp n cap q S k1,c,ch⟩) 1:=by
  rw[show(cAt [1,1,1,0,1,0,0,1,0,0,0] (bdy Try.f17))=(.seq (cAt [1,1,1,0,1,0,0,1,0,0,0,0] (bdy Try.f17)) (cAt [1,1,1,0,1,0,0,1,0,0,0,1] (bdy Try.f17))) from by kernel_rfl]
  refine runs_seq (dPv5 a t H N bp l cp n cap q S j hH hN hb hbN hl hn hc h16 hnl hS hq hq1 ) (fun s hh=> ?_) (fun e s hne hh=>absurd hh.1 hne)
  obtain⟨_,j,c,ch,f0_12,rfl⟩:=hh
  refine(dPv8 a t H N bp l cp n cap q S j hH hN hb hbN hl hn hc h16 hnl hS hq hq1 f0_12 ).mono ?_
  rintro e s ⟨rfl,k1,j,c,ch,rfl⟩
  exact⟨rfl,k1,j,c,ch,rfl⟩
abbrev dPvI_s (a:Array Value) (t:Tq) (H N:List Int) (bp:Option Addr) (l cp:Nat) (n cap:Nat) (q:Nat) (S:List Int) (k:Nat) (V:List Int) (j:Nat→Value):List Value:=([j 0,j 1,.pointer (some ⟨1,0,none⟩),j 3,.pointer (some ⟨2,0,none⟩),.pointer (some ⟨3,0,none⟩),.slice (some ⟨4,0,none⟩) n cap,.int .i64 ((16*q:Nat):Int)] ++ (J j 8 29))
abbrev dPvI_m (a:Array Value) (t:Tq) (H N:List Int) (bp:Option Addr) (l cp:Nat) (n cap:Nat) (q:Nat) (S:List Int) (k:Nat) (V:List Int):List Mb:= [(a,t),((wA .u8 16 H),(22,(0,0))),((wA .u8 16 []),(22,(0,0))),((wA .u8 16 V),(22,(0,0))),((wA .u8 cap (fuL N)),(5,(0,0)))]
def dPv0ap_h (i:Nat):Hn:=if i=9 then⟨12,[],[],[],[]⟩ else⟨0,[],[],[],[]⟩
def dPv0ap_b (a:Array Value) (t:Tq) (H N:List Int) (bp:Option Addr) (l cp:Nat) (n cap:Nat) (q:Nat) (S:List Int) (k:Nat) (j:Nat→Value):List Value:=([j 0,j 1,.pointer (some ⟨1,0,none⟩),j 3,.pointer (some ⟨2,0,none⟩),.pointer (some ⟨3,0,none⟩),.slice (some ⟨4,0,none⟩) n cap,.int .i64 ((16*q:Nat):Int)] ++ (J j 8 25 ++ ([.agg (wA .u8 16 (xr S ((fuL N).drop (16*q)))),.agg (wA .u8 16 H),.agg (wA .u8 16 (dotL (dL8 (wA .u8 16 (xr S ((fuL N).drop (16*q))))) (dL8 (wA .u8 16 H)))),j 36])))
theorem dPv0ap_0 (a:Array Value) (t:Tq) (H N:List Int) (bp:Option Addr) (l cp:Nat) (n cap:Nat) (q:Nat) (S:List Int) (k:Nat) (j:Nat→Value):evC (yty.enf (pdd :: []) 1) dPv0ap_h (cAt [1,1,1,0,1,0,0,1,0,0,1] (bdy Try.f17)) ⟨dPvH_s a t H N bp l cp n cap q S k j,dPvH_m a t H N bp l cp n cap q S k,True,[]⟩=some (.normal,⟨dPv0ap_b a t H N bp l cp n cap q S k j,[(a,t),((wA .u8 16 H),(22,(0,0))),((wA .u8 16 []),(22,(0,0))),((wA .u8 16 (dotL (dL8 (wA .u8 16 (xr S ((fuL N).drop (16*q))))) (dL8 (wA .u8 16 H)))),(22,(0,0))),((wA .u8 cap (fuL N)),(5,(0,0)))],((((True∧True)∧True)∧(((wA .u8 16 (xr S ((fuL N).drop (16*q))))=wA .u8 16 (dL8 (wA .u8 16 (xr S ((fuL N).drop (16*q)))))∧By (dL8 (wA .u8 16 (xr S ((fuL N).drop (16*q))))))∧((wA .u8 16 H)=wA .u8 16 (dL8 (wA .u8 16 H))∧By (dL8 (wA .u8 16 H)))))∧((wA .u8 16 (dotL (dL8 (wA .u8 16 (xr S ((fuL N).drop (16*q))))) (dL8 (wA .u8 16 H)))).all (fun v=>v.oneCell')=true)),[]⟩):=by kernel_rfl
theorem dPv0a (a:Array Value) (t:Tq) (H N:List Int) (bp:Option Addr) (l cp:Nat) (n cap:Nat) (q:Nat) (S:List Int) (k:Nat) (j:Nat→Value) (hH:By H) (hN:By N) (hb:Bk a bp l cp) (hbN:bO a bp l=N) (hl:l≤1000000) (hn:n=(fuL N).length) (hc:n≤cap) (h16:n%16=0) (hnl:n≤2000000) (hS:S=absN H q [] (fuL N)) (hq:q≤n / 16) (hq1:q<n / 16)  {c0:Prop} {ch0:List (Option Value)}:Runs Try.prog (cAt [1,1,1,0,1,0,0,1,0,0,1] (bdy Try.f17)) ⟨dPvH_s a t H N bp l cp n cap q S k j,dPvH_m a t H N bp l cp n cap q S k,c0,ch0⟩ (fun e s=>e= .normal∧∃(j:Nat→Value) (c:Prop) (ch:List (Option Value)),((dotL (dL8 (wA .u8 16 (xr S ((fuL N).drop (16*q))))) (dL8 (wA .u8 16 H)))=absN H (q+1) [] (fuL N))∧s=⟨dPvI_s a t H N bp l cp n cap q S k (dotL (dL8 (wA .u8 16 (xr S ((fuL N).drop (16*q))))) (dL8 (wA .u8 16 H))) j,dPvI_m a t H N bp l cp n cap q S k (dotL (dL8 (wA .u8 16 (xr S ((fuL N).drop (16*q))))) (dL8 (wA .u8 16 H))),c,ch⟩) 1:=by
  refine(runs_ev mixed _ (dPv0ap_0 a t H N bp l cp n cap q S k j) ⟨⟨⟨⟨trivial,trivial⟩,trivial⟩,⟨dq (xr_by _ _),dq hH⟩⟩,(wA_one _ _ _)⟩).mono ?_
  rintro e s ⟨rfl,hs⟩
  refine⟨rfl,fun q=>s.tm.getD q undef,s.c,s.ch,by rw[dotL_w1,dotL_w2,hS];exact(absN_end _ _ _ _).symm,?_⟩
  subst hs
  kernel_rfl
theorem dPv0b (a:Array Value) (t:Tq) (H N:List Int) (bp:Option Addr) (l cp:Nat) (n cap:Nat) (q:Nat) (S:List Int) (j:Nat→Value) (hH:By H) (hN:By N) (hb:Bk a bp l cp) (hbN:bO a bp l=N) (hl:l≤1000000) (hn:n=(fuL N).length) (hc:n≤cap) (h16:n%16=0) (hnl:n≤2000000) (hS:S=absN H q [] (fuL N)) (hq:q≤n / 16) (hq1:q<n / 16)  {c0:Prop} {ch0:List (Option Value)}:Runs Try.prog (cAt [1,1,1,0,1,0,0,1,0,0] (bdy Try.f17)) ⟨dPvF_s a t H N bp l cp n cap q S j,dPvF_m a t H N bp l cp n cap q S,c0,ch0⟩ (fun e s=>e= .normal∧∃(k10:Nat) (j:Nat→Value) (c:Prop) (ch:List (Option Value)),((dotL (dL8 (wA .u8 16 (xr S ((fuL N).drop (16*q))))) (dL8 (wA .u8 16 H)))=absN H (q+1) [] (fuL N))∧s=⟨dPvI_s a t H N bp l cp n cap q S k10 (dotL (dL8 (wA .u8 16 (xr S ((fuL N).drop (16*q))))) (dL8 (wA .u8 16 H))) j,dPvI_m a t H N bp l cp n cap q S k10 (dotL (dL8 (wA .u8 16 (xr S ((fuL N).drop (16*q))))) (dL8 (wA .u8 16 H))),c,ch⟩) 1:=by
  rw[show(cAt [1,1,1,0,1,0,0,1,0,0] (bdy Try.f17))=(.seq (cAt [1,1,1,0,1,0,0,1,0,0,0] (bdy Try.f17)) (cAt [1,1,1,0,1,0,0,1,0,0,1] (bdy Try.f17))) from by kernel_rfl]
  refine runs_seq (dPv9 a t H N bp l cp n cap q S j hH hN hb hbN hl hn hc h16 hnl hS hq hq1 ) (fun s hh=> ?_) (fun e s hne hh=>absurd hh.1 hne)
  obtain⟨_,k10,j,c,ch,rfl⟩:=hh
  refine(dPv0a a t H N bp l cp n cap q S k10 j hH hN hb hbN hl hn hc h16 hnl hS hq hq1 ).mono ?_
  rintro e s ⟨rfl,j,c,ch,f1_12,rfl⟩
  exact⟨rfl,k10,j,c,ch,f1_12,rfl⟩
theorem dPv0c (a:Array Value) (t:Tq) (H N:List Int) (bp:Option Addr) (l cp:Nat) (n cap:Nat) (q:Nat) (S:List Int) (j:Nat→Value) (hH:By H) (hN:By N) (hb:Bk a bp l cp) (hbN:bO a bp l=N) (hl:l≤1000000) (hn:n=(fuL N).length) (hc:n≤cap) (h16:n%16=0) (hnl:n≤2000000) (hS:S=absN H q [] (fuL N)) (hq:q≤n / 16) (hq1:q<n / 16)  {c0:Prop} {ch0:List (Option Value)}:Runs Try.prog (cAt [1,1,1,0,1,0,0,1,0] (bdy Try.f17)) ⟨dPvF_s a t H N bp l cp n cap q S j,dPvF_m a t H N bp l cp n cap q S,c0,ch0⟩ (fun e s=>e= .normal∧∃(k10:Nat) (j:Nat→Value) (c:Prop) (ch:List (Option Value)),((dotL (dL8 (wA .u8 16 (xr S ((fuL N).drop (16*q))))) (dL8 (wA .u8 16 H)))=absN H (q+1) [] (fuL N))∧s=⟨dPvI_s a t H N bp l cp n cap q S k10 (dotL (dL8 (wA .u8 16 (xr S ((fuL N).drop (16*q))))) (dL8 (wA .u8 16 H))) j,dPvI_m a t H N bp l cp n cap q S k10 (dotL (dL8 (wA .u8 16 (xr S ((fuL N).drop (16*q))))) (dL8 (wA .u8 16 H))),c,ch⟩) 1:=by
  rw[show(cAt [1,1,1,0,1,0,0,1,0] (bdy Try.f17))= .block 1 (cAt [1,1,1,0,1,0,0,1,0,0] (bdy Try.f17)) from by kernel_rfl]
  refine runs_block (dPv0b a t H N bp l cp n cap q S j hH hN hb hbN hl hn hc h16 hnl hS hq hq1 ) ?_
  rintro e s ⟨rfl,hh⟩
  exact .inr (.inl ⟨rfl,rfl,hh⟩)
def dPv0dp_h (i:Nat):Hn:=if i=9 then⟨12,[],[],[],[]⟩ else⟨0,[],[],[],[]⟩
def dPv0dp_b (a:Array Value) (t:Tq) (H N:List Int) (bp:Option Addr) (l cp:Nat) (n cap:Nat) (q:Nat) (S:List Int) (k:Nat) (V:List Int) (j:Nat→Value):List Value:=([j 0,j 1,.pointer (some ⟨1,0,none⟩),j 3,.pointer (some ⟨2,0,none⟩),.pointer (some ⟨3,0,none⟩),.slice (some ⟨4,0,none⟩) n cap,.int .i64 ((16*q+16:Nat):Int)] ++ (J j 8 7 ++ ([.int .i64 ((16*q:Nat):Int),.int .i64 ((16*q+16:Nat):Int)] ++ (J j 17 20))))
theorem dPv0dp_0 (a:Array Value) (t:Tq) (H N:List Int) (bp:Option Addr) (l cp:Nat) (n cap:Nat) (q:Nat) (S:List Int) (k:Nat) (V:List Int) (j:Nat→Value):evC (yty.enf (pdd :: []) 1) dPv0dp_h (cAt [1,1,1,0,1,0,0,1,1] (bdy Try.f17)) ⟨dPvI_s a t H N bp l cp n cap q S k V j,dPvI_m a t H N bp l cp n cap q S k V,True,[some (.int .i64 ((16*q+16:Nat):Int))]⟩=some (.normal,⟨dPv0dp_b a t H N bp l cp n cap q S k V j,[(a,t),((wA .u8 16 H),(22,(0,0))),((wA .u8 16 []),(22,(0,0))),((wA .u8 16 V),(22,(0,0))),((wA .u8 cap (fuL N)),(5,(0,0)))],(((True∧True)∧(True∧(IntKind.i64.wrap (((16*q:Nat):Int)+16))=((16*q+16:Nat):Int)))∧True),[]⟩):=by kernel_rfl
theorem dPv0d (a:Array Value) (t:Tq) (H N:List Int) (bp:Option Addr) (l cp:Nat) (n cap:Nat) (q:Nat) (S:List Int) (k:Nat) (V:List Int) (j:Nat→Value) (hH:By H) (hN:By N) (hb:Bk a bp l cp) (hbN:bO a bp l=N) (hl:l≤1000000) (hn:n=(fuL N).length) (hc:n≤cap) (h16:n%16=0) (hnl:n≤2000000) (hS:S=absN H q [] (fuL N)) (hq:q≤n / 16) (hq1:q<n / 16) (hV:V=absN H (q+1) [] (fuL N))  {c0:Prop} {ch0:List (Option Value)}:Runs Try.prog (cAt [1,1,1,0,1,0,0,1,1] (bdy Try.f17)) ⟨dPvI_s a t H N bp l cp n cap q S k V j,dPvI_m a t H N bp l cp n cap q S k V,c0,ch0⟩ (fun e s=>e= .normal∧∃(j:Nat→Value) (c:Prop) (ch:List (Option Value)),(V=absN H (q+1) [] (fuL N))∧((q+1)≤n / 16)∧s=⟨dPvE_s a t H N bp l cp n cap (q+1) V j,dPvE_m a t H N bp l cp n cap (q+1) V,c,ch⟩) 1:=by
  refine(runs_ev mixed _ (dPv0dp_0 a t H N bp l cp n cap q S k V j) ⟨⟨⟨trivial,trivial⟩,⟨trivial,(by rw[IntKind.wrap_i64];omega)⟩⟩,trivial⟩).mono ?_
  rintro e s ⟨rfl,hs⟩
  refine⟨rfl,fun q=>s.tm.getD q undef,s.c,s.ch,hV,by omega,?_⟩
  subst hs
  kernel_rfl
theorem dPv0e (a:Array Value) (t:Tq) (H N:List Int) (bp:Option Addr) (l cp:Nat) (n cap:Nat) (q:Nat) (S:List Int) (j:Nat→Value) (hH:By H) (hN:By N) (hb:Bk a bp l cp) (hbN:bO a bp l=N) (hl:l≤1000000) (hn:n=(fuL N).length) (hc:n≤cap) (h16:n%16=0) (hnl:n≤2000000) (hS:S=absN H q [] (fuL N)) (hq:q≤n / 16) (hq1:q<n / 16)  {c0:Prop} {ch0:List (Option Value)}:Runs Try.prog (cAt [1,1,1,0,1,0,0,1] (bdy Try.f17)) ⟨dPvF_s a t H N bp l cp n cap q S j,dPvF_m a t H N bp l cp n cap q S,c0,ch0⟩ (fun e s=>e= .normal∧∃(k100:Nat) (j:Nat→Value) (c:Prop) (ch:List (Option Value)),((dotL (dL8 (wA .u8 16 (xr S ((fuL N).drop (16*q))))) (dL8 (wA .u8 16 H)))=absN H (q+1) [] (fuL N))∧((q+1)≤n / 16)∧s=⟨dPvE_s a t H N bp l cp n cap (q+1) (dotL (dL8 (wA .u8 16 (xr S ((fuL N).drop (16*q))))) (dL8 (wA .u8 16 H))) j,dPvE_m a t H N bp l cp n cap (q+1) (dotL (dL8 (wA .u8 16 (xr S ((fuL N).drop (16*q))))) (dL8 (wA .u8 16 H))),c,ch⟩) 1:=by
  rw[show(cAt [1,1,1,0,1,0,0,1] (bdy Try.f17))=(.seq (cAt [1,1,1,0,1,0,0,1,0] (bdy Try.f17)) (cAt [1,1,1,0,1,0,0,1,1] (bdy Try.f17))) from by kernel_rfl]
  refine runs_seq (dPv0c a t H N bp l cp n cap q S j hH hN hb hbN hl hn hc h16 hnl hS hq hq1 ) (fun s hh=> ?_) (fun e s hne hh=>absurd hh.1 hne)
  obtain⟨_,k100,j,c,ch,f0_12,rfl⟩:=hh
  refine(dPv0d a t H N bp l cp n cap q S k100 (dotL (dL8 (wA .u8 16 (xr S ((fuL N).drop (16*q))))) (dL8 (wA .u8 16 H))) j hH hN hb hbN hl hn hc h16 hnl hS hq hq1 f0_12 ).mono ?_
  rintro e s ⟨rfl,j,c,ch,f1_9,f1_10,rfl⟩
  exact⟨rfl,k100,j,c,ch,f1_9,f1_10,rfl⟩
theorem dPv0f (a:Array Value) (t:Tq) (H N:List Int) (bp:Option Addr) (l cp:Nat) (n cap:Nat) (q:Nat) (S:List Int) (j:Nat→Value) (hH:By H) (hN:By N) (hb:Bk a bp l cp) (hbN:bO a bp l=N) (hl:l≤1000000) (hn:n=(fuL N).length) (hc:n≤cap) (h16:n%16=0) (hnl:n≤2000000) (hS:S=absN H q [] (fuL N)) (hq:q≤n / 16) (hlt:q<n / 16) {c0:Prop} {ch0:List (Option Value)}:Runs Try.prog (cAt [1,1,1,0,1,0,0] (bdy Try.f17)) ⟨dPvE_s a t H N bp l cp n cap q S j,dPvE_m a t H N bp l cp n cap q S,c0,ch0⟩ (fun e s=>e= .normal∧∃(k1001:Nat) (j:Nat→Value) (c:Prop) (ch:List (Option Value)),((dotL (dL8 (wA .u8 16 (xr S ((fuL N).drop (16*q))))) (dL8 (wA .u8 16 H)))=absN H (q+1) [] (fuL N))∧((q+1)≤n / 16)∧s=⟨dPvE_s a t H N bp l cp n cap (q+1) (dotL (dL8 (wA .u8 16 (xr S ((fuL N).drop (16*q))))) (dL8 (wA .u8 16 H))) j,dPvE_m a t H N bp l cp n cap (q+1) (dotL (dL8 (wA .u8 16 (xr S ((fuL N).drop (16*q))))) (dL8 (wA .u8 16 H))),c,ch⟩) 1:=by
  rw[show(cAt [1,1,1,0,1,0,0] (bdy Try.f17))=(.seq (cAt [1,1,1,0,1,0,0,0] (bdy Try.f17)) (cAt [1,1,1,0,1,0,0,1] (bdy Try.f17))) from by kernel_rfl]
  refine runs_seq (dPv4 a t H N bp l cp n cap q S j hH hN hb hbN hl hn hc h16 hnl hS hq hlt) (fun s hh=> ?_) (fun e s hne hh=>absurd hh.1 hne)
  obtain⟨_,j,c,ch,f0_11,rfl⟩:=hh
  refine(dPv0e a t H N bp l cp n cap q S j hH hN hb hbN hl hn hc h16 hnl hS hq f0_11 ).mono ?_
  rintro e s ⟨rfl,k1001,j,c,ch,f1_9,f1_10,rfl⟩
  exact⟨rfl,k1001,j,c,ch,f1_9,f1_10,rfl⟩
abbrev dPvJ_s (a:Array Value) (t:Tq) (H N:List Int) (bp:Option Addr) (l cp:Nat) (n cap:Nat) (q:Nat) (S:List Int) (j:Nat→Value):List Value:=([j 0,j 1,.pointer (some ⟨1,0,none⟩),j 3,.pointer (some ⟨2,0,none⟩),.pointer (some ⟨3,0,none⟩),.slice (some ⟨4,0,none⟩) n cap] ++ (J j 7 30))
abbrev dPvJ_m (a:Array Value) (t:Tq) (H N:List Int) (bp:Option Addr) (l cp:Nat) (n cap:Nat) (q:Nat) (S:List Int):List Mb:= [(a,t),((wA .u8 16 H),(22,(0,0))),((wA .u8 16 []),(22,(0,0))),((wA .u8 16 S),(22,(0,0))),((wA .u8 cap (fuL N)),(5,(0,0)))]
def dPv0gp_h (i:Nat):Hn:=if i=9 then⟨12,[],[],[],[]⟩ else⟨0,[],[],[],[]⟩
def dPv0gp_b (a:Array Value) (t:Tq) (H N:List Int) (bp:Option Addr) (l cp:Nat) (n cap:Nat) (q:Nat) (S:List Int) (j:Nat→Value):List Value:=([j 0,j 1,.pointer (some ⟨1,0,none⟩),j 3,.pointer (some ⟨2,0,none⟩),.pointer (some ⟨3,0,none⟩),.slice (some ⟨4,0,none⟩) n cap,.int .i64 ((16*q:Nat):Int)] ++ (J j 8 3 ++ ([.int .i64 ((16*q:Nat):Int),.slice (some ⟨4,0,none⟩) n cap,.int .i64 ((n:Nat):Int),.bool false] ++ (J j 15 22))))
theorem dPv0gp_0 (a:Array Value) (t:Tq) (H N:List Int) (bp:Option Addr) (l cp:Nat) (n cap:Nat) (q:Nat) (S:List Int) (j:Nat→Value):evC (yty.enf (pdd :: []) 1) dPv0gp_h (cAt [1,1,1,0,1,0,0] (bdy Try.f17)) ⟨dPvE_s a t H N bp l cp n cap q S j,dPvE_m a t H N bp l cp n cap q S,True,[some (.bool false)]⟩=some ((.exit 0),⟨dPv0gp_b a t H N bp l cp n cap q S j,[(a,t),((wA .u8 16 H),(22,(0,0))),((wA .u8 16 []),(22,(0,0))),((wA .u8 16 S),(22,(0,0))),((wA .u8 cap (fuL N)),(5,(0,0)))],((((True∧True)∧True)∧True)∧(True∧(decide (((16*q:Nat):Int)<((n:Nat):Int)))=false)),[]⟩):=by kernel_rfl
theorem dPv0g (a:Array Value) (t:Tq) (H N:List Int) (bp:Option Addr) (l cp:Nat) (n cap:Nat) (q:Nat) (S:List Int) (j:Nat→Value) (hH:By H) (hN:By N) (hb:Bk a bp l cp) (hbN:bO a bp l=N) (hl:l≤1000000) (hn:n=(fuL N).length) (hc:n≤cap) (h16:n%16=0) (hnl:n≤2000000) (hS:S=absN H q [] (fuL N)) (hq:q≤n / 16) (hge:¬ q<n / 16) {c0:Prop} {ch0:List (Option Value)}:Runs Try.prog (cAt [1,1,1,0,1,0,0] (bdy Try.f17)) ⟨dPvE_s a t H N bp l cp n cap q S j,dPvE_m a t H N bp l cp n cap q S,c0,ch0⟩ (fun e s=>e=(.exit 0)∧∃(j:Nat→Value) (c:Prop) (ch:List (Option Value)),(S=absN H ((fuL N).length / 16) [] (fuL N))∧s=⟨dPvJ_s a t H N bp l cp n cap q S j,dPvJ_m a t H N bp l cp n cap q S,c,ch⟩) 1:=by
  have h0:(decide (((16*q:Nat):Int)<((n:Nat):Int)))=false:=(decide_eq_false (by omega))
  refine(runs_ev mixed _ (dPv0gp_0 a t H N bp l cp n cap q S j) ⟨⟨⟨⟨trivial,trivial⟩,trivial⟩,trivial⟩,⟨trivial,h0⟩⟩).mono ?_
  rintro e s ⟨rfl,hs⟩
  refine⟨rfl,fun q=>s.tm.getD q undef,s.c,s.ch,by rw[hS,show q=(fuL N).length / 16 by omega],?_⟩
  subst hs
  kernel_rfl
theorem dPv0hL (a:Array Value) (t:Tq) (H:List Int) (N:List Int) (bp:Option Addr) (l:Nat) (cp:Nat) (n:Nat) (cap:Nat) (j:Nat→Value) (hH:By H) (hN:By N) (hb:Bk a bp l cp) (hbN:bO a bp l=N) (hl:l≤1000000) (hn:n=(fuL N).length) (hc:n≤cap) (h16:n%16=0) (hnl:n≤2000000) (ihS:([]:List Int)=absN H 0 [] (fuL N)) (ihq:0≤n / 16)  {c0:Prop} {ch0:List (Option Value)}:Runs Try.prog (.loop (cAt [1,1,1,0,1,0,0] (bdy Try.f17))) ⟨dPvE_s a t H N bp l cp n cap 0 ([]:List Int) j,dPvE_m a t H N bp l cp n cap 0 ([]:List Int),c0,ch0⟩ (fun e s=>e= .exit 0∧∃(q:Nat) (S:List Int) (j:Nat→Value) (c:Prop) (ch:List (Option Value)),(S=absN H ((fuL N).length / 16) [] (fuL N))∧s=⟨dPvJ_s a t H N bp l cp n cap q S j,dPvJ_m a t H N bp l cp n cap q S,c,ch⟩) 1:=by
  refine runs_loop (fun M s=>∃(q:Nat) (S:List Int) (j:Nat→Value) (c:Prop) (ch:List (Option Value)),(S=absN H q [] (fuL N))∧(q≤n / 16)∧M=n / 16 - q∧s=⟨dPvE_s a t H N bp l cp n cap q S j,dPvE_m a t H N bp l cp n cap q S,c,ch⟩) ((n / 16) - 0) ⟨0,([]:List Int),j,c0,ch0,ihS,ihq,rfl,rfl⟩ ?_
  rintro M s ⟨q,S,j,c,ch,hS,hq,rfl,rfl⟩
  by_cases hlt:q<n / 16
  · skip
    refine(dPv0f a t H N bp l cp n cap q S j hH hN hb hbN hl hn hc h16 hnl hS hq hlt).mono ?_
    rintro e s ⟨rfl,k1001_,j,c,ch,f9,f10,rfl⟩
    exact .inl ⟨rfl,n / 16 - (q+1),by omega,⟨(q+1),(dotL (dL8 (wA .u8 16 (xr S ((fuL N).drop (16*q))))) (dL8 (wA .u8 16 H))),j,c,ch,f9,f10,rfl,rfl⟩⟩
  · refine (dPv0g a t H N bp l cp n cap q S j hH hN hb hbN hl hn hc h16 hnl hS hq hlt).mono ?_
    intro e s hh
    obtain⟨rfl,j,c,ch,f0,rfl⟩:=hh
    exact .inr ⟨by simp,rfl,q,S,j,c,ch,f0,rfl⟩
theorem dPv0h (a:Array Value) (t:Tq) (H:List Int) (N:List Int) (bp:Option Addr) (l:Nat) (cp:Nat) (n:Nat) (cap:Nat) (j:Nat→Value) (hH:By H) (hN:By N) (hb:Bk a bp l cp) (hbN:bO a bp l=N) (hl:l≤1000000) (hn:n=(fuL N).length) (hc:n≤cap) (h16:n%16=0) (hnl:n≤2000000) (ihS:([]:List Int)=absN H 0 [] (fuL N)) (ihq:0≤n / 16)  {c0:Prop} {ch0:List (Option Value)}:Runs Try.prog (cAt [1,1,1,0,1] (bdy Try.f17)) ⟨dPvE_s a t H N bp l cp n cap 0 ([]:List Int) j,dPvE_m a t H N bp l cp n cap 0 ([]:List Int),c0,ch0⟩ (fun e s=>e= .normal∧∃(q:Nat) (S:List Int) (j:Nat→Value) (c:Prop) (ch:List (Option Value)),(S=absN H ((fuL N).length / 16) [] (fuL N))∧s=⟨dPvJ_s a t H N bp l cp n cap q S j,dPvJ_m a t H N bp l cp n cap q S,c,ch⟩) 1:=by
  rw[show(cAt [1,1,1,0,1] (bdy Try.f17))= .block 0 (.loop (cAt [1,1,1,0,1,0,0] (bdy Try.f17))) from by kernel_rfl]
  refine runs_block (dPv0hL a t H N bp l cp n cap j hH hN hb hbN hl hn hc h16 hnl ihS ihq ) ?_
  rintro e s ⟨rfl,hh⟩
  exact .inl ⟨rfl,rfl,hh⟩
theorem dPv0i (a:Array Value) (t:Tq) (H N:List Int) (bp:Option Addr) (l cp:Nat) (n cap:Nat) (j:Nat→Value) (hH:By H) (hN:By N) (hb:Bk a bp l cp) (hbN:bO a bp l=N) (hl:l≤1000000) (hn:n=(fuL N).length) (hc:n≤cap) (h16:n%16=0) (hnl:n≤2000000)  {c0:Prop} {ch0:List (Option Value)}:Runs Try.prog (cAt [1,1,1,0] (bdy Try.f17)) ⟨dPvD_s a t H N bp l cp n cap j,dPvD_m a t H N bp l cp n cap,c0,ch0⟩ (fun e s=>e= .normal∧∃(q1:Nat) (S1:List Int) (j:Nat→Value) (c:Prop) (ch:List (Option Value)),(S1=absN H ((fuL N).length / 16) [] (fuL N))∧s=⟨dPvJ_s a t H N bp l cp n cap q1 S1 j,dPvJ_m a t H N bp l cp n cap q1 S1,c,ch⟩) 1:=by
  rw[show(cAt [1,1,1,0] (bdy Try.f17))=(.seq (cAt [1,1,1,0,0] (bdy Try.f17)) (cAt [1,1,1,0,1] (bdy Try.f17))) from by kernel_rfl]
  refine runs_seq (dPv3 a t H N bp l cp n cap j hH hN hb hbN hl hn hc h16 hnl ) (fun s hh=> ?_) (fun e s hne hh=>absurd hh.1 hne)
  obtain⟨_,j,c,ch,f0_9,f0_10,rfl⟩:=hh
  refine(dPv0h a t H N bp l cp n cap j hH hN hb hbN hl hn hc h16 hnl f0_9 f0_10 ).mono ?_
  rintro e s ⟨rfl,q1,S1,j,c,ch,f1_0,rfl⟩
  exact⟨rfl,q1,S1,j,c,ch,f1_0,rfl⟩
abbrev dPvK_s (a:Array Value) (t:Tq) (H N:List Int) (bp:Option Addr) (l cp:Nat) (n cap:Nat) (q:Nat) (S:List Int) (j:Nat→Value):List Value:=(J j 0 4 ++ ([.pointer (some ⟨2,0,none⟩)] ++ (J j 5 32)))
abbrev dPvK_m (a:Array Value) (t:Tq) (H N:List Int) (bp:Option Addr) (l cp:Nat) (n cap:Nat) (q:Nat) (S:List Int):List Mb:= [(a,t),((wA .u8 16 H),(22,(0,0))),((wA .u8 16 S),(22,(0,0))),((wA .u8 16 S),(22,(0,0))),((wA .u8 cap (fuL N)),(5,(0,0)))]
def dPv0jp_h (i:Nat):Hn:=if i=9 then⟨12,[],[],[],[]⟩ else⟨0,[],[],[],[]⟩
def dPv0jp_b (a:Array Value) (t:Tq) (H N:List Int) (bp:Option Addr) (l cp:Nat) (n cap:Nat) (q:Nat) (S:List Int) (j:Nat→Value):List Value:=([j 0,j 1,.pointer (some ⟨1,0,none⟩),j 3,.pointer (some ⟨2,0,none⟩),.pointer (some ⟨3,0,none⟩),.slice (some ⟨4,0,none⟩) n cap] ++ (J j 7 29 ++ ([.agg (wA .u8 16 S)])))
theorem dPv0jp_0 (a:Array Value) (t:Tq) (H N:List Int) (bp:Option Addr) (l cp:Nat) (n cap:Nat) (q:Nat) (S:List Int) (j:Nat→Value):evC (yty.enf (pdd :: []) 1) dPv0jp_h (cAt [1,1,1,1] (bdy Try.f17)) ⟨dPvJ_s a t H N bp l cp n cap q S j,dPvJ_m a t H N bp l cp n cap q S,True,[]⟩=some (.ret,⟨dPv0jp_b a t H N bp l cp n cap q S j,[(a,t),((wA .u8 16 H),(22,(0,0))),((wA .u8 16 S),(22,(0,0))),((wA .u8 16 S),(22,(0,0))),((wA .u8 cap (fuL N)),(5,(0,0)))],((True∧True)∧((wA .u8 16 S).all (fun v=>v.oneCell')=true)),[]⟩):=by kernel_rfl
theorem dPv0j (a:Array Value) (t:Tq) (H N:List Int) (bp:Option Addr) (l cp:Nat) (n cap:Nat) (q:Nat) (S:List Int) (j:Nat→Value) (hE:S=absN H ((fuL N).length / 16) [] (fuL N))  {c0:Prop} {ch0:List (Option Value)}:Runs Try.prog (cAt [1,1,1,1] (bdy Try.f17)) ⟨dPvJ_s a t H N bp l cp n cap q S j,dPvJ_m a t H N bp l cp n cap q S,c0,ch0⟩ (fun e s=>e= .ret∧∃(j:Nat→Value) (c:Prop) (ch:List (Option Value)),s=⟨dPvK_s a t H N bp l cp n cap q S j,dPvK_m a t H N bp l cp n cap q S,c,ch⟩) 1:=by
  refine(runs_ev mixed _ (dPv0jp_0 a t H N bp l cp n cap q S j) ⟨⟨trivial,trivial⟩,(wA_one _ _ _)⟩).mono ?_
  rintro e s ⟨rfl,hs⟩
  refine⟨rfl,fun q=>s.tm.getD q undef,s.c,s.ch,?_⟩
  subst hs
  kernel_rfl
theorem dPvu (a:Array Value) (t:Tq) (H N:List Int) (bp:Option Addr) (l cp:Nat) (j:Nat→Value) (hH:By H) (hN:By N) (hb:Bk a bp l cp) (hbN:bO a bp l=N) (hl:l≤1000000)  {c0:Prop} {ch0:List (Option Value)}:Runs Try.prog (cAt [] (bdy Try.f17)) ⟨dPvA_s a t H N bp l cp j,dPvA_m a t H N bp l cp,c0,ch0⟩ (fun e s=>e= .ret∧∃(k12:Nat) (q13:Nat) (S13:List Int) (j:Nat→Value) (c:Prop) (ch:List (Option Value)),(S13=absN H ((fuL N).length / 16) [] (fuL N))∧s=⟨dPvK_s a t H N bp l cp ((fuL N).length) k12 q13 S13 j,dPvK_m a t H N bp l cp ((fuL N).length) k12 q13 S13,c,ch⟩) 1:=by
  rw[show(cAt [] (bdy Try.f17))=(.seq (cAt [0] (bdy Try.f17)) (.seq (cAt [1,0] (bdy Try.f17)) (.seq (cAt [1,1,0] (bdy Try.f17)) (.seq (cAt [1,1,1,0] (bdy Try.f17)) (cAt [1,1,1,1] (bdy Try.f17)))))) from by kernel_rfl]
  refine runs_seq (dPv0 a t H N bp l cp j hH hN hb hbN hl ) (fun s hh=> ?_) (fun e s hne hh=>absurd hh.1 hne)
  obtain⟨_,j,c,ch,rfl⟩:=hh
  refine runs_seq (dPv1 a t H N bp l cp j hH hN hb hbN hl ) (fun s hh=> ?_) (fun e s hne hh=>absurd hh.1 hne)
  obtain⟨_,j,c,ch,rfl⟩:=hh
  refine runs_seq (dPv2 a t H N bp l cp j hH hN hb hbN hl ) (fun s hh=> ?_) (fun e s hne hh=>absurd hh.1 hne)
  obtain⟨_,k12,j,c,ch,f2_5,f2_6,f2_7,f2_8,rfl⟩:=hh
  refine runs_seq (dPv0i a t H N bp l cp ((fuL N).length) k12 j hH hN hb hbN hl f2_5 f2_6 f2_7 f2_8 ) (fun s hh=> ?_) (fun e s hne hh=>absurd hh.1 hne)
  obtain⟨_,q13,S13,j,c,ch,f3_0,rfl⟩:=hh
  refine(dPv0j a t H N bp l cp ((fuL N).length) k12 q13 S13 j f3_0 ).mono ?_
  rintro e s ⟨rfl,j,c,ch,rfl⟩
  exact⟨rfl,k12,q13,S13,j,c,ch,f3_0,rfl⟩
theorem dPv_c (a:Array Value) (t:Tq) (H:List Int) (bp:Option Addr) (l cp:Nat) (hH:By H) (hb:Bk a bp l cp) (hN:By (bO a bp l)) (hl:l≤1000000):Reads Try.prog 17 [(a,t)] [.agg (wA .u8 16 H),.slice bp l cp] (.agg (wA .u8 16 (absL H [] (bO a bp l)))):=by
  have ha: [Value.agg (wA .u8 16 H),.slice bp l cp].all (okp (1%big))=true:=by
    obtain⟨_,⟨rfl,rfl,_⟩|⟨p,rfl,_,_⟩⟩:=hb<;>kernel_rfl
  refine reads_runs (fk:=1) (yty.enf (pdd :: []) 1) Try.func17 (c:=bdy Try.f17) (by kernel_rfl) ⟨by rfl,by decide⟩ (args:= [.agg (wA .u8 16 H),.slice bp l cp]) ha (K:=fun e s=>e= .ret∧resS (yty.enf (pdd :: []) 1) s Try.f17.results.toList=some [.agg (wA .u8 16 (absL H [] (bO a bp l)))]) ?_ (fun e s h=>⟨h.1,_,h.2,rfl⟩)
  refine(dPvu a t H (bO a bp l) bp l cp (fun _=>undef) hH hN hb rfl hl).mono ?_
  rintro e s ⟨rfl,k1,q,S,j,c,ch,hE,rfl⟩
  rw[← absL_full,← hE]
  exact⟨rfl,by kernel_rfl⟩
end Go.Proofs.Ytnadkbniljejfaa

set_option linter.unusedSimpArgs false
set_option linter.unusedVariables false
/-! siv: the bytes are lent, and kept. -/
namespace Go.Proofs.Ytnadkbniljejfaa
open Go.RowKit Go.Ev
theorem src_app9 {q:IntKind} {mem x:List Mb} {u:Value} {N:List Int} (h:SrcOk q mem u N):SrcOk q (mem ++ x) u N:=by
  rcases h.h with h|⟨j,p,c,src,st,h1,h2,h3⟩
  · exact⟨.inl h⟩
  · exact⟨.inr ⟨j,p,c,src,st,h1,by rw[List.getElem?_append_left (List.getElem?_eq_some_iff.1 h2).1];exact h2,h3⟩⟩
theorem makesA_lift1q {P : Program} {f : FuncId} {n ng : Nat} {L : List Int} {e : TypeId} {mem : List Mb} {bp : Option Addr} {l cp : Nat} {N : List Int} (hu : SrcOk .u8 mem (.slice bp l cp) N) (hS : ∀ a t o, SrcOk .u8 [(a, t)] (.slice (some ⟨0, o, none⟩) l cp) N → MakesA P f [(a, t)] [.slice (some ⟨0, o, none⟩) l cp] .u8 n L e) (hNil : N = [] → MakesA P f [] [.slice none 0 0] .u8 n L e) : MakesA P f mem [.slice bp l cp] .u8 n L e ng := fun w β hw hg => by
  rcases hu.h with⟨h1,h2⟩|⟨j,p,c,src,st,h1,h2,h3,h4⟩
  · cases h1
    exact hNil h2 w β (fun i x hx=>by simp at hx) (fun i hi=>by omega)
  · cases h1
    exact hS src st p ⟨.inr ⟨0,p,cp,src,st,rfl,rfl,h3,h4⟩⟩ w (fun _=>β j) (fun i x hx=>by
      cases i with
      | zero =>
        simp only[List.getElem?_cons_zero,Option.some.injEq] at hx
        subst hx
        exact hw j _ h2
      |succ i=>simp at hx) (fun i hi=>by omega)
theorem lentbq {a:Array Value} {o l c:Nat} (hb:bytesAt a o l) (hc:l+1≤c):bytesAt (wA .u8 c (bL a o l ++ [77])) 0 l:=fun j hj=>by
  rw[Nat.zero_add]
  have e:iat (wA .u8 c (bL a o l ++ [77])) j=iat a (o+j):=by
    unfold iat
    rw[wA_at (by omega),getD_app,bL_len,if_pos hj,bL_at,if_pos hj]
    rfl
  have h:=hb j hj
  rw[e]
  refine⟨?_,h.2⟩
  rw[wA_at (by omega),getD_app,bL_len,if_pos hj,bL_at,if_pos hj]
theorem lent_bLq {a:Array Value} {o l c:Nat} (hb:bytesAt a o l) (hc:l+1≤c):bL (wA .u8 c (bL a o l ++ [77])) 0 l=bL a o l:=by
  unfold bL
  apply List.map_congr_left
  intro j hj
  have hj:j<l:=by simpa using hj
  rw[Nat.zero_add]
  have e:iat (wA .u8 c (bL a o l ++ [77])) j=iat a (o+j):=by
    unfold iat
    rw[wA_at (by omega),getD_app,bL_len,if_pos hj,bL_at,if_pos hj]
    rfl
  exact e
theorem ext_bLq {a:Array Value} {o l:Nat} (hb:bytesAt a o l) (hz:o+l≤a.size):a.extract o (o+l)=(Go.Ev.iv .u8 (bL a o l)).toArray:=by
  rcases(src_b (mem:= [(a,(0,0,0))]) (i:=0) (c:=l) rfl hb hz).h with⟨h,_⟩|⟨j,p,c,src,st,h1,h2,h3,h4⟩
  · cases h
  · rw [bL_len] at h1 h4
    cases h1
    cases h2
    exact h4
theorem b8_extq {a:Array Value} {o l:Nat} (hb:bytesAt a o l) (hz:o+l≤a.size):(a.extract o (o+l)).all isB8=true:=by
  rw[ext_bLq hb hz]
  rw[Array.all_eq_true']
  intro v hv
  have hv:v ∈ Go.Ev.iv .u8 (bL a o l):=by simpa using hv
  obtain⟨x,hx,rfl⟩:=List.mem_map.1 hv
  obtain⟨j,hj,rfl⟩:=List.mem_map.1 hx
  have hj:j<l:=by simpa using hj
  have:=(hb j hj).2
  simp[isB8,this.1,this.2]
theorem at77q {N:List Int} {l c p:Nat} (hN:N.length=l) (hc:l+1≤c) (hp:p=l):(wA .u8 c (N ++ [77]))[p]? =some (.int .u8 77):=by
  subst hp
  rw[wA_at (by omega),getD_app,if_neg (by omega),hN,Nat.sub_self];rfl
abbrev le9sA_s (a:Array Value) (t:Tq) (o l cp:Nat) (N:List Int) (j:Nat→Value):List Value:=([.slice (some ⟨0,o,none⟩) l cp] ++ (JU 10))
abbrev le9sA_m (a:Array Value) (t:Tq) (o l cp:Nat) (N:List Int):List Mb:= [(a,t)]
abbrev le9sB_s (a:Array Value) (t:Tq) (o l cp:Nat) (N:List Int) (j:Nat→Value):List Value:=([.slice (some ⟨0,o,none⟩) l cp] ++ (J j 1 10))
abbrev le9sB_m (a:Array Value) (t:Tq) (o l cp:Nat) (N:List Int):List Mb:= [(a,t)]
def le9s0p_h (i:Nat):Hn:=⟨0,[],[],[],[]⟩
def le9s0p_b (a:Array Value) (t:Tq) (o l cp:Nat) (N:List Int) (j:Nat→Value):List Value:=([.slice (some ⟨0,o,none⟩) l cp,undef,.slice none 0 0] ++ (JU 8))
theorem le9s0p_0 (a:Array Value) (t:Tq) (o l cp:Nat) (N:List Int) (j:Nat→Value):evC (yty.enf tab0 1) le9s0p_h (cAt [0] (bdy Try.f12)) ⟨le9sA_s a t o l cp N j,le9sA_m a t o l cp N,True,[]⟩=some (.normal,⟨le9s0p_b a t o l cp N j,[(a,t)],(True∧True),[]⟩):=by kernel_rfl
theorem le9s0 (a:Array Value) (t:Tq) (o l cp:Nat) (N:List Int) (j:Nat→Value) (hu:SrcOk .u8 [(a,t)] (.slice (some ⟨0,o,none⟩) l cp) N) (hN:N.length=l) (hl:l≤1000000000)  {c0:Prop} {ch0:List (Option Value)}:Runs Try.prog (cAt [0] (bdy Try.f12)) ⟨le9sA_s a t o l cp N j,le9sA_m a t o l cp N,c0,ch0⟩ (fun e s=>e= .normal∧∃(j:Nat→Value) (c:Prop) (ch:List (Option Value)),s=⟨le9sB_s a t o l cp N j,le9sB_m a t o l cp N,c,ch⟩) 1:=by
  refine(runs_ev mixed _ (le9s0p_0 a t o l cp N j) ⟨trivial,trivial⟩).mono ?_
  rintro e s ⟨rfl,hs⟩
  refine⟨rfl,fun q=>s.tm.getD q undef,s.c,s.ch,?_⟩
  subst hs
  kernel_rfl
abbrev le9sC_s (a:Array Value) (t:Tq) (o l cp:Nat) (N:List Int) (k2:Nat) (j:Nat→Value):List Value:=([j 0,j 1,.slice (some ⟨1,(if k2=0 then 0 else 0+0*1),none⟩) l k2] ++ (J j 3 8))
abbrev le9sC_m (a:Array Value) (t:Tq) (o l cp:Nat) (N:List Int) (k2:Nat):List Mb:= [(a,t),((wA .u8 k2 (N ++ [77])),(5,(0,0))),((wA .u8 1 [77]),(5,(0,0)))]
def le9s1p_m0 (a:Array Value) (t:Tq) (o l cp:Nat) (N:List Int) (j:Nat→Value):List Value:=([.slice (some ⟨0,o,none⟩) l cp,j 1,j 2,.slice (some ⟨1,0,none⟩) 0 0,.slice (some ⟨0,o,none⟩) l cp] ++ (J j 5 6))
theorem le9s1p_0 (a:Array Value) (t:Tq) (o l cp:Nat) (N:List Int) (j:Nat→Value):evL (yty.enf tab0 1) (oT (cAt [1,0] (bdy Try.f12))) ((oT (cAt [1,0] (bdy Try.f12))).toList.take 2) ⟨le9sB_s a t o l cp N j,le9sB_m a t o l cp N,True,[]⟩=some ⟨le9s1p_m0 a t o l cp N j,[(a,t),((wA .u8 0 []),(5,(0,0)))],(True∧True),[]⟩:=by kernel_rfl
def le9s1p_m1 (a:Array Value) (t:Tq) (o l cp:Nat) (N:List Int) (j:Nat→Value) (n1 k1 M1:Nat):List Value:=([.slice (some ⟨0,o,none⟩) l cp,al 1 M1 (j 1),al 1 M1 (j 2),.slice (some ⟨M1,0,none⟩) 0 0,.slice (some ⟨0,o,none⟩) l cp,.slice (some ⟨1,0,none⟩) n1 k1,.slice (some ⟨2,0,none⟩) 1 1] ++ (JA j 1 M1 7 4))
theorem le9s1p_1 (a:Array Value) (t:Tq) (o l cp:Nat) (N:List Int) (j:Nat→Value) (n1 k1 M1:Nat):evL (yty.enf tab0 1) (oT (cAt [1,0] (bdy Try.f12))) (((oT (cAt [1,0] (bdy Try.f12))).toList.drop 3).take 1) ⟨putS ((le9s1p_m0 a t o l cp N j).map (al 1 M1)) (some 5) (.slice (some ⟨1,0,none⟩) n1 k1),[(a,t),((wA .u8 0 []),(5,(0,0)))].set 1 (wA .u8 k1 (([]:List Int) ++ N),5,(0,0)),True,[]⟩=some ⟨le9s1p_m1 a t o l cp N j n1 k1 M1,[(a,t),((wA .u8 k1 (([]:List Int) ++ N)),(5,(0,0))),((wA .u8 1 [77]),(5,(0,0)))],True,[]⟩:=by kernel_rfl
def le9s1p_b (a:Array Value) (t:Tq) (o l cp:Nat) (N:List Int) (j:Nat→Value) (n1 k1 M1:Nat) (n2 k2 M2:Nat):List Value:=([.slice (some ⟨0,o,none⟩) l cp,al 1 M2 (al 1 M1 (j 1)),.slice (some ⟨1,(if k2=0 then 0 else 0+0*1),none⟩) l k2,al 1 M2 (.slice (some ⟨M1,0,none⟩) 0 0),.slice (some ⟨0,o,none⟩) l cp,.slice (some ⟨M2,0,none⟩) n1 k1,.slice (some ⟨2,0,none⟩) 1 1,.slice (some ⟨1,0,none⟩) n2 k2,.slice (some ⟨0,o,none⟩) l cp,.int .i64 ((l:Nat):Int),.slice (some ⟨1,(if k2=0 then 0 else 0+0*1),none⟩) l k2])
theorem le9s1p_e (a:Array Value) (t:Tq) (o l cp:Nat) (N:List Int) (j:Nat→Value) (n1 k1 M1:Nat) (n2 k2 M2:Nat):evL (yty.enf tab0 1) (oT (cAt [1,0] (bdy Try.f12))) (((oT (cAt [1,0] (bdy Try.f12))).toList.drop 3).drop 2) ⟨putS ((le9s1p_m1 a t o l cp N j n1 k1 M1).map (al 1 M2)) (some 7) (.slice (some ⟨1,0,none⟩) n2 k2),[(a,t),((wA .u8 k1 (([]:List Int) ++ N)),(5,(0,0))),((wA .u8 1 [77]),(5,(0,0)))].set 1 (wA .u8 k2 (N ++ ([77]:List Int)),5,(0,0)),True,[]⟩=some ⟨le9s1p_b a t o l cp N j n1 k1 M1 n2 k2 M2,[(a,t),((wA .u8 k2 (N ++ ([77]:List Int))),(5,(0,0))),((wA .u8 1 [77]),(5,(0,0)))],((((True∧True)∧True)∧((True∧(0≤((l:Nat):Int)))∧0≤l∧l≤k2))∧True),[]⟩:=by kernel_rfl
theorem le9s1 (a:Array Value) (t:Tq) (o l cp:Nat) (N:List Int) (j:Nat→Value) (hu:SrcOk .u8 [(a,t)] (.slice (some ⟨0,o,none⟩) l cp) N) (hN:N.length=l) (hl:l≤1000000000)  {c0:Prop} {ch0:List (Option Value)}:Runs Try.prog (cAt [1,0] (bdy Try.f12)) ⟨le9sB_s a t o l cp N j,le9sB_m a t o l cp N,c0,ch0⟩ (fun e s=>e= .normal∧∃(k2:Nat) (j:Nat→Value) (c:Prop) (ch:List (Option Value)),(l+1≤k2)∧s=⟨le9sC_s a t o l cp N k2 j,le9sC_m a t o l cp N k2,c,ch⟩) 1:=by
  refine runs_region (K:=fun s=>∃(k2:Nat) (j:Nat→Value) (c:Prop) (ch:List (Option Value)),(l+1≤k2)∧s=⟨le9sC_s a t o l cp N k2 j,le9sC_m a t o l cp N k2,c,ch⟩) (by kernel_rfl) ?_
  have hb0:(([]:List Int)).length+(N).length≤1099511627776:=(by simp only[List.length_nil];omega)
  refine runsL_appS (E:=(yty.enf tab0 1)) (x:=(.tmp 3)) (y:=(.tmp 4)) (d:=some 5) (L:=([]:List Int)) (N:=N) 2 (le9s1p_0 a t o l cp N j) ⟨trivial,trivial⟩ (by kernel_rfl) apY apY.ht (by decide) (by decide) rfl rfl rfl (by simp) (src_app9 (x:= [_]) hu) (by omega) (by omega) (fun n1 k1 M1 c ch hn1 hk1=> ?_)
  try simp only[List.length_append,List.length_cons,List.length_nil,List.length_singleton] at hn1
  have hb1:(N).length+(([77]:List Int)).length≤1099511627776:=(by simp only[List.length_cons,List.length_nil];omega)
  refine runsL_appS (E:=(yty.enf tab0 1)) (x:=(.tmp 5)) (y:=(.tmp 6)) (d:=some 7) (L:=N) (N:=([77]:List Int)) 1 (le9s1p_1 a t o l cp N j n1 k1 M1) trivial (by kernel_rfl) apY apY.ht (by decide) (by decide) rfl (by omega) rfl (by omega) (src_wA (i:=2) rfl rfl (by decide)) (by omega) (by omega) (fun n2 k2 M2 c ch hn2 hk2=> ?_)
  try simp only[List.length_append,List.length_cons,List.length_nil,List.length_singleton] at hn2
  refine(runsL_ev _ (le9s1p_e a t o l cp N j n1 k1 M1 n2 k2 M2) ⟨⟨⟨⟨trivial,trivial⟩,trivial⟩,(by refine⟨⟨?_,?_⟩,?_,?_⟩<;>first|trivial|omega)⟩,trivial⟩).mono ?_
  rintro s hs
  refine⟨k2,fun q=>s.tm.getD q undef,s.c,s.ch,by omega,?_⟩
  subst hs
  kernel_rfl
def le9s2p_h (i:Nat):Hn:=⟨0,[],[],[],[]⟩
def le9s2p_b (a:Array Value) (t:Tq) (o l cp:Nat) (N:List Int) (k2:Nat) (j:Nat→Value):List Value:=([j 0,j 1,.slice (some ⟨1,(if k2=0 then 0 else 0+0*1),none⟩) l k2] ++ (J j 3 8))
theorem le9s2p_0 (a:Array Value) (t:Tq) (o l cp:Nat) (N:List Int) (k2:Nat) (j:Nat→Value):evC (yty.enf tab0 1) le9s2p_h (cAt [1,1] (bdy Try.f12)) ⟨le9sC_s a t o l cp N k2 j,le9sC_m a t o l cp N k2,True,[]⟩=some (.ret,⟨le9s2p_b a t o l cp N k2 j,[(a,t),((wA .u8 k2 (N ++ [77])),(5,(0,0))),((wA .u8 1 [77]),(5,(0,0)))],True,[]⟩):=by kernel_rfl
theorem le9s2 (a:Array Value) (t:Tq) (o l cp:Nat) (N:List Int) (k2:Nat) (j:Nat→Value) (hu:SrcOk .u8 [(a,t)] (.slice (some ⟨0,o,none⟩) l cp) N) (hN:N.length=l) (hl:l≤1000000000) (hk:l+1≤k2)  {c0:Prop} {ch0:List (Option Value)}:Runs Try.prog (cAt [1,1] (bdy Try.f12)) ⟨le9sC_s a t o l cp N k2 j,le9sC_m a t o l cp N k2,c0,ch0⟩ (fun e s=>e= .ret∧∃(j:Nat→Value) (c:Prop) (ch:List (Option Value)),s=⟨le9sC_s a t o l cp N k2 j,le9sC_m a t o l cp N k2,c,ch⟩) 1:=by
  refine(runs_ev mixed _ (le9s2p_0 a t o l cp N k2 j) trivial).mono ?_
  rintro e s ⟨rfl,hs⟩
  refine⟨rfl,fun q=>s.tm.getD q undef,s.c,s.ch,?_⟩
  subst hs
  kernel_rfl
theorem le9su (a:Array Value) (t:Tq) (o l cp:Nat) (N:List Int) (j:Nat→Value) (hu:SrcOk .u8 [(a,t)] (.slice (some ⟨0,o,none⟩) l cp) N) (hN:N.length=l) (hl:l≤1000000000)  {c0:Prop} {ch0:List (Option Value)}:Runs Try.prog (cAt [] (bdy Try.f12)) ⟨le9sA_s a t o l cp N j,le9sA_m a t o l cp N,c0,ch0⟩ (fun e s=>e= .ret∧∃(k21:Nat) (j:Nat→Value) (c:Prop) (ch:List (Option Value)),(l+1≤k21)∧s=⟨le9sC_s a t o l cp N k21 j,le9sC_m a t o l cp N k21,c,ch⟩) 1:=by
  rw[show(cAt [] (bdy Try.f12))=(.seq (cAt [0] (bdy Try.f12)) (.seq (cAt [1,0] (bdy Try.f12)) (cAt [1,1] (bdy Try.f12)))) from by kernel_rfl]
  refine runs_seq (le9s0 a t o l cp N j hu hN hl ) (fun s hh=> ?_) (fun e s hne hh=>absurd hh.1 hne)
  obtain⟨_,j,c,ch,rfl⟩:=hh
  refine runs_seq (le9s1 a t o l cp N j hu hN hl ) (fun s hh=> ?_) (fun e s hne hh=>absurd hh.1 hne)
  obtain⟨_,k21,j,c,ch,f1_3,rfl⟩:=hh
  refine(le9s2 a t o l cp N k21 j hu hN hl f1_3 ).mono ?_
  rintro e s ⟨rfl,j,c,ch,rfl⟩
  exact⟨rfl,k21,j,c,ch,f1_3,rfl⟩
abbrev le9nA_s (N:List Int) (j:Nat→Value):List Value:=([.slice none 0 0] ++ (JU 10))
abbrev le9nA_m (N:List Int):List Mb:= []
abbrev le9nB_s (N:List Int) (j:Nat→Value):List Value:=([.slice none 0 0] ++ (J j 1 10))
abbrev le9nB_m (N:List Int):List Mb:= []
def le9n0p_h (i:Nat):Hn:=⟨0,[],[],[],[]⟩
def le9n0p_b (N:List Int) (j:Nat→Value):List Value:=([.slice none 0 0,undef,.slice none 0 0] ++ (JU 8))
theorem le9n0p_0 (N:List Int) (j:Nat→Value):evC (yty.en tab0) le9n0p_h (cAt [0] (bdy Try.f12)) ⟨le9nA_s N j,le9nA_m N,True,[]⟩=some (.normal,⟨le9n0p_b N j,[],(True∧True),[]⟩):=by kernel_rfl
theorem le9n0 (N:List Int) (j:Nat→Value) (hN:N= [])  {c0:Prop} {ch0:List (Option Value)}:Runs Try.prog (cAt [0] (bdy Try.f12)) ⟨le9nA_s N j,le9nA_m N,c0,ch0⟩ (fun e s=>e= .normal∧∃(j:Nat→Value) (c:Prop) (ch:List (Option Value)),s=⟨le9nB_s N j,le9nB_m N,c,ch⟩) 0:=by
  refine(runs_ev mixed _ (le9n0p_0 N j) ⟨trivial,trivial⟩).mono ?_
  rintro e s ⟨rfl,hs⟩
  refine⟨rfl,fun q=>s.tm.getD q undef,s.c,s.ch,?_⟩
  subst hs
  kernel_rfl
abbrev le9nC_s (N:List Int) (k2:Nat) (j:Nat→Value):List Value:=([j 0,j 1,.slice (some ⟨0,(if k2=0 then 0 else 0+0*1),none⟩) 0 k2] ++ (J j 3 8))
abbrev le9nC_m (N:List Int) (k2:Nat):List Mb:= [((wA .u8 k2 (N ++ [77])),(5,(0,0))),((wA .u8 1 [77]),(5,(0,0)))]
def le9n1p_m0 (N:List Int) (j:Nat→Value):List Value:=([.slice none 0 0,j 1,j 2,.slice (some ⟨0,0,none⟩) 0 0,.slice none 0 0] ++ (J j 5 6))
theorem le9n1p_0 (N:List Int) (j:Nat→Value):evL (yty.en tab0) (oT (cAt [1,0] (bdy Try.f12))) ((oT (cAt [1,0] (bdy Try.f12))).toList.take 2) ⟨le9nB_s N j,le9nB_m N,True,[]⟩=some ⟨le9n1p_m0 N j,[((wA .u8 0 []),(5,(0,0)))],(True∧True),[]⟩:=by kernel_rfl
def le9n1p_m1 (N:List Int) (j:Nat→Value) (n1 k1 M1:Nat):List Value:=([.slice none 0 0,al 0 M1 (j 1),al 0 M1 (j 2),.slice (some ⟨M1,0,none⟩) 0 0,.slice none 0 0,.slice (some ⟨0,0,none⟩) n1 k1,.slice (some ⟨1,0,none⟩) 1 1] ++ (JA j 0 M1 7 4))
theorem le9n1p_1 (N:List Int) (j:Nat→Value) (n1 k1 M1:Nat):evL (yty.en tab0) (oT (cAt [1,0] (bdy Try.f12))) (((oT (cAt [1,0] (bdy Try.f12))).toList.drop 3).take 1) ⟨putS ((le9n1p_m0 N j).map (al 0 M1)) (some 5) (.slice (some ⟨0,0,none⟩) n1 k1),[((wA .u8 0 []),(5,(0,0)))].set 0 (wA .u8 k1 (([]:List Int) ++ N),5,(0,0)),True,[]⟩=some ⟨le9n1p_m1 N j n1 k1 M1,[((wA .u8 k1 (([]:List Int) ++ N)),(5,(0,0))),((wA .u8 1 [77]),(5,(0,0)))],True,[]⟩:=by kernel_rfl
def le9n1p_b (N:List Int) (j:Nat→Value) (n1 k1 M1:Nat) (n2 k2 M2:Nat):List Value:=([.slice none 0 0,al 0 M2 (al 0 M1 (j 1)),.slice (some ⟨0,(if k2=0 then 0 else 0+0*1),none⟩) 0 k2,al 0 M2 (.slice (some ⟨M1,0,none⟩) 0 0),.slice none 0 0,.slice (some ⟨M2,0,none⟩) n1 k1,.slice (some ⟨1,0,none⟩) 1 1,.slice (some ⟨0,0,none⟩) n2 k2,.slice none 0 0,.int .i64 0,.slice (some ⟨0,(if k2=0 then 0 else 0+0*1),none⟩) 0 k2])
theorem le9n1p_e (N:List Int) (j:Nat→Value) (n1 k1 M1:Nat) (n2 k2 M2:Nat):evL (yty.en tab0) (oT (cAt [1,0] (bdy Try.f12))) (((oT (cAt [1,0] (bdy Try.f12))).toList.drop 3).drop 2) ⟨putS ((le9n1p_m1 N j n1 k1 M1).map (al 0 M2)) (some 7) (.slice (some ⟨0,0,none⟩) n2 k2),[((wA .u8 k1 (([]:List Int) ++ N)),(5,(0,0))),((wA .u8 1 [77]),(5,(0,0)))].set 0 (wA .u8 k2 (N ++ ([77]:List Int)),5,(0,0)),True,[]⟩=some ⟨le9n1p_b N j n1 k1 M1 n2 k2 M2,[((wA .u8 k2 (N ++ ([77]:List Int))),(5,(0,0))),((wA .u8 1 [77]),(5,(0,0)))],((((True∧True)∧True)∧((True∧((0:Int)≤0))∧0≤0∧0≤k2))∧True),[]⟩:=by kernel_rfl
theorem le9n1 (N:List Int) (j:Nat→Value) (hN:N= [])  {c0:Prop} {ch0:List (Option Value)}:Runs Try.prog (cAt [1,0] (bdy Try.f12)) ⟨le9nB_s N j,le9nB_m N,c0,ch0⟩ (fun e s=>e= .normal∧∃(k2:Nat) (j:Nat→Value) (c:Prop) (ch:List (Option Value)),(0+1≤k2)∧s=⟨le9nC_s N k2 j,le9nC_m N k2,c,ch⟩) 0:=by
  have hNl:N.length=0:=by rw[hN];rfl
  refine runs_region (K:=fun s=>∃(k2:Nat) (j:Nat→Value) (c:Prop) (ch:List (Option Value)),(0+1≤k2)∧s=⟨le9nC_s N k2 j,le9nC_m N k2,c,ch⟩) (by kernel_rfl) ?_
  have hb0:(([]:List Int)).length+(N).length≤1099511627776:=(by rw[hN];decide)
  refine runsL_appS (E:=(yty.en tab0)) (x:=(.tmp 3)) (y:=(.tmp 4)) (d:=some 5) (L:=([]:List Int)) (N:=N) 2 (le9n1p_0 N j) ⟨trivial,trivial⟩ (by kernel_rfl) apY apY.ht (by decide) (by decide) rfl rfl rfl (by simp) (by subst hN;exact src_nil) (by omega) (by omega) (fun n1 k1 M1 c ch hn1 hk1=> ?_)
  try simp only[List.length_append,List.length_cons,List.length_nil,List.length_singleton] at hn1
  have hb1:(N).length+(([77]:List Int)).length≤1099511627776:=(by rw[hN];decide)
  refine runsL_appS (E:=(yty.en tab0)) (x:=(.tmp 5)) (y:=(.tmp 6)) (d:=some 7) (L:=N) (N:=([77]:List Int)) 1 (le9n1p_1 N j n1 k1 M1) trivial (by kernel_rfl) apY apY.ht (by decide) (by decide) rfl (by rw[hn1,hN];rfl) rfl (by omega) (src_wA (i:=1) rfl rfl (by decide)) (by omega) (by omega) (fun n2 k2 M2 c ch hn2 hk2=> ?_)
  try simp only[List.length_append,List.length_cons,List.length_nil,List.length_singleton] at hn2
  refine(runsL_ev _ (le9n1p_e N j n1 k1 M1 n2 k2 M2) ⟨⟨⟨⟨trivial,trivial⟩,trivial⟩,(by refine⟨⟨?_,?_⟩,?_,?_⟩<;>first|trivial|omega)⟩,trivial⟩).mono ?_
  rintro s hs
  refine⟨k2,fun q=>s.tm.getD q undef,s.c,s.ch,by rw[hN] at hn2;simp at hn2;omega,?_⟩
  subst hs
  kernel_rfl
def le9n2p_h (i:Nat):Hn:=⟨0,[],[],[],[]⟩
def le9n2p_b (N:List Int) (k2:Nat) (j:Nat→Value):List Value:=([j 0,j 1,.slice (some ⟨0,(if k2=0 then 0 else 0+0*1),none⟩) 0 k2] ++ (J j 3 8))
theorem le9n2p_0 (N:List Int) (k2:Nat) (j:Nat→Value):evC (yty.en tab0) le9n2p_h (cAt [1,1] (bdy Try.f12)) ⟨le9nC_s N k2 j,le9nC_m N k2,True,[]⟩=some (.ret,⟨le9n2p_b N k2 j,[((wA .u8 k2 (N ++ [77])),(5,(0,0))),((wA .u8 1 [77]),(5,(0,0)))],True,[]⟩):=by kernel_rfl
theorem le9n2 (N:List Int) (k2:Nat) (j:Nat→Value) (hN:N= []) (hk:0+1≤k2)  {c0:Prop} {ch0:List (Option Value)}:Runs Try.prog (cAt [1,1] (bdy Try.f12)) ⟨le9nC_s N k2 j,le9nC_m N k2,c0,ch0⟩ (fun e s=>e= .ret∧∃(j:Nat→Value) (c:Prop) (ch:List (Option Value)),s=⟨le9nC_s N k2 j,le9nC_m N k2,c,ch⟩) 0:=by
  refine(runs_ev mixed _ (le9n2p_0 N k2 j) trivial).mono ?_
  rintro e s ⟨rfl,hs⟩
  refine⟨rfl,fun q=>s.tm.getD q undef,s.c,s.ch,?_⟩
  subst hs
  kernel_rfl
theorem le9nu (N:List Int) (j:Nat→Value) (hN:N= [])  {c0:Prop} {ch0:List (Option Value)}:Runs Try.prog (cAt [] (bdy Try.f12)) ⟨le9nA_s N j,le9nA_m N,c0,ch0⟩ (fun e s=>e= .ret∧∃(k21:Nat) (j:Nat→Value) (c:Prop) (ch:List (Option Value)),(0+1≤k21)∧s=⟨le9nC_s N k21 j,le9nC_m N k21,c,ch⟩) 0:=by
  rw[show(cAt [] (bdy Try.f12))=(.seq (cAt [0] (bdy Try.f12)) (.seq (cAt [1,0] (bdy Try.f12)) (cAt [1,1] (bdy Try.f12)))) from by kernel_rfl]
  refine runs_seq (le9n0 N j hN ) (fun s hh=> ?_) (fun e s hne hh=>absurd hh.1 hne)
  obtain⟨_,j,c,ch,rfl⟩:=hh
  refine runs_seq (le9n1 N j hN ) (fun s hh=> ?_) (fun e s hne hh=>absurd hh.1 hne)
  obtain⟨_,k21,j,c,ch,f1_1,rfl⟩:=hh
  refine(le9n2 N k21 j hN f1_1 ).mono ?_
  rintro e s ⟨rfl,j,c,ch,rfl⟩
  exact⟨rfl,k21,j,c,ch,f1_1,rfl⟩
theorem le9_some (a:Array Value) (t:Tq) (o l cp:Nat) (N:List Int) (hu:SrcOk .u8 [(a,t)] (.slice (some ⟨0,o,none⟩) l cp) N) (hN:N.length=l) (hl:l≤1000000000):MakesA Try.prog 12 [(a,t)] [.slice (some ⟨0,o,none⟩) l cp] .u8 l (N ++ [77]) 5:=by
  refine makesA_runs (fk:=1) Try.func12 (c:=bdy Try.f12) (by kernel_rfl) ⟨rfl,by decide⟩ (args:= [.slice (some ⟨0,o,none⟩) l cp]) rfl (r:=2) (by kernel_rfl) (le9su a t o l cp N (fun _=>undef) hu hN hl) ?_
  rintro e s ⟨rfl,k2,j,c,ch,hk,rfl⟩
  have hz:(if k2=0 then 0 else 0+0*1)=0:=by split<;>rfl
  refine⟨rfl,1,k2,by decide,by simp only[List.length_append,List.length_cons,List.length_nil];omega,?_,rfl⟩
  show Value.slice (some ⟨1,(if k2=0 then 0 else 0+0*1),none⟩) l k2=_
  rw[hz]
theorem le9_nil:MakesA Try.prog 12 [] [.slice none 0 0] .u8 0 ([] ++ [77]) 5:=by
  refine makesA_runs (fk:=0) Try.func12 (c:=bdy Try.f12) (by kernel_rfl) ⟨rfl,by decide⟩ (args:= [.slice none 0 0]) rfl (r:=2) (by kernel_rfl) (le9nu [] (fun _=>undef) rfl) ?_
  rintro e s ⟨rfl,k2,j,c,ch,hk,rfl⟩
  have hz:(if k2=0 then 0 else 0+0*1)=0:=by split<;>rfl
  refine⟨rfl,0,k2,by decide,by simp only[List.length_append,List.length_cons,List.length_nil];omega,?_,rfl⟩
  show Value.slice (some ⟨0,(if k2=0 then 0 else 0+0*1),none⟩) 0 k2=_
  rw[hz]
theorem le9_c {mem:List Mb} {bp:Option Addr} {l cp ng:Nat} {N:List Int} (hu:SrcOk .u8 mem (.slice bp l cp) N) (hN:N.length=l) (hl:l≤1000000000):MakesA Try.prog 12 mem [.slice bp l cp] .u8 l (N ++ [77]) 5 ng:=
  makesA_lift1q hu (fun a t o h=>le9_some a t o l cp N h hN hl) (fun e=>by subst e;have:l=0:=hN.symm;subst this;exact le9_nil)
abbrev kpsqA_s (t1 t2:Tq) (a:Array Value) (o l cp c3:Nat) (j:Nat→Value):List Value:=([.slice (some ⟨0,0,none⟩) l c3,.slice (some ⟨1,o,none⟩) l cp] ++ (JU 20))
abbrev kpsqA_m (t1 t2:Tq) (a:Array Value) (o l cp c3:Nat):List Mb:= [((wA .u8 c3 ((bL a o l) ++ [77])),t1),(a,t2)]
abbrev kpsqB_s (t1 t2:Tq) (a:Array Value) (o l cp c3:Nat) (j:Nat→Value):List Value:=([.slice (some ⟨0,0,none⟩) l c3,.slice (some ⟨1,o,none⟩) l cp,j 2,j 3,.bool false] ++ (J j 5 17))
abbrev kpsqB_m (t1 t2:Tq) (a:Array Value) (o l cp c3:Nat):List Mb:= [((wA .u8 c3 ((bL a o l) ++ [77])),t1),(a,t2)]
def kpsq0p_h (i:Nat):Hn:=⟨0,[],[],[],[]⟩
def kpsq0p_b (t1 t2:Tq) (a:Array Value) (o l cp c3:Nat) (j:Nat→Value):List Value:=([.slice (some ⟨0,0,none⟩) l c3,.slice (some ⟨1,o,none⟩) l cp,undef,undef,.bool false] ++ (JU 17))
theorem kpsq0p_0 (t1 t2:Tq) (a:Array Value) (o l cp c3:Nat) (j:Nat→Value):evC (yty.enf tabV0 2) kpsq0p_h (cAt [0] (bdy Try.f16)) ⟨kpsqA_s t1 t2 a o l cp c3 j,kpsqA_m t1 t2 a o l cp c3,True,[]⟩=some (.normal,⟨kpsq0p_b t1 t2 a o l cp c3 j,[((wA .u8 c3 ((bL a o l) ++ [77])),t1),(a,t2)],(True∧True),[]⟩):=by kernel_rfl
theorem kpsq0 (t1 t2:Tq) (a:Array Value) (o l cp c3:Nat) (j:Nat→Value) (hb:bytesAt a o l) (hz:o+l≤a.size) (hcp:l≤cp) (hl:l≤100000000) (hc3:l+1≤c3)  {c0:Prop} {ch0:List (Option Value)}:Runs Try.prog (cAt [0] (bdy Try.f16)) ⟨kpsqA_s t1 t2 a o l cp c3 j,kpsqA_m t1 t2 a o l cp c3,c0,ch0⟩ (fun e s=>e= .normal∧∃(j:Nat→Value) (c:Prop) (ch:List (Option Value)),s=⟨kpsqB_s t1 t2 a o l cp c3 j,kpsqB_m t1 t2 a o l cp c3,c,ch⟩) 2:=by
  refine(runs_ev mixed _ (kpsq0p_0 t1 t2 a o l cp c3 j) ⟨trivial,trivial⟩).mono ?_
  rintro e s ⟨rfl,hs⟩
  refine⟨rfl,fun q=>s.tm.getD q undef,s.c,s.ch,?_⟩
  subst hs
  kernel_rfl
abbrev kpsqC_s (t1 t2:Tq) (a:Array Value) (o l cp c3:Nat) (j:Nat→Value):List Value:=(J j 0 4 ++ ([.bool true] ++ (J j 5 17)))
abbrev kpsqC_m (t1 t2:Tq) (a:Array Value) (o l cp c3:Nat):List Mb:= [((wA .u8 c3 ((bL a o l) ++ [77])),t1),(a,t2)]
def kpsq1p_h (i:Nat):Hn:=⟨0,[],[],[],[]⟩
def kpsq1p_b (t1 t2:Tq) (a:Array Value) (o l cp c3:Nat) (j:Nat→Value):List Value:=([.slice (some ⟨0,0,none⟩) l c3,.slice (some ⟨1,o,none⟩) l cp,j 2,j 3,.bool true,.slice (some ⟨0,0,none⟩) l c3,.string (bstr ((wA .u8 c3 ((bL a o l) ++ [77])).extract 0 (0+l))),.slice (some ⟨1,o,none⟩) l cp,.string (bstr (a.extract o (o+l))),.bool true,.bool true,.slice (some ⟨0,0,none⟩) l c3,.slice (some ⟨1,o,none⟩) l cp,.int .i64 ((l:Nat):Int),.int .i64 ((l+1:Nat):Int),.slice (some ⟨0,(if c3=0 then 0 else 0+0*1),none⟩) (l+1) c3,.slice (some ⟨1,o,none⟩) l cp,.int .i64 ((l:Nat):Int),.pointer (some ⟨0,(if c3=0 then 0 else 0+0*1)+Int.toNat ((l:Nat):Int)*1,none⟩),.int .u8 77,.bool true,.bool true])
theorem kpsq1p_0 (t1 t2:Tq) (a:Array Value) (o l cp c3:Nat) (j:Nat→Value):evC (yty.enf tabV0 2) kpsq1p_h (cAt [1] (bdy Try.f16)) ⟨kpsqB_s t1 t2 a o l cp c3 j,kpsqB_m t1 t2 a o l cp c3,True,[some (.bool true),some (.int .i64 ((l+1:Nat):Int)),some (.int .u8 77),some (.bool true)]⟩=some (.ret,⟨kpsq1p_b t1 t2 a o l cp c3 j,[((wA .u8 c3 ((bL a o l) ++ [77])),t1),(a,t2)],((((((((((((((((((True∧True)∧(((wA .u8 c3 ((bL a o l) ++ [77])).extract 0 (0+l)).all isB8=true∧0+l≤(wA .u8 c3 ((bL a o l) ++ [77])).size))∧True)∧((a.extract o (o+l)).all isB8=true∧o+l≤a.size))∧(True∧(((bstr ((wA .u8 c3 ((bL a o l) ++ [77])).extract 0 (0+l)))).toList == ((bstr (a.extract o (o+l)))).toList)=true))∧True)∧True)∧True)∧True)∧(True∧(IntKind.i64.wrap (((l:Nat):Int)+1))=((l+1:Nat):Int)))∧((True∧(0≤((l+1:Nat):Int)))∧0≤(l+1)∧(l+1)≤c3))∧True)∧True)∧((0:Int)≤((l:Nat):Int)∧(((l:Nat):Int):Int)<(((l+1):Nat):Int)))∧(((wA .u8 c3 ((bL a o l) ++ [77]))[((if c3=0 then 0 else 0+0*1)+Int.toNat ((l:Nat):Int)*1)]? =some (.int .u8 77))∧(77:Int)=77))∧(True∧true=true))∧True)∧True),[]⟩):=by kernel_rfl
theorem kpsq1 (t1 t2:Tq) (a:Array Value) (o l cp c3:Nat) (j:Nat→Value) (hb:bytesAt a o l) (hz:o+l≤a.size) (hcp:l≤cp) (hl:l≤100000000) (hc3:l+1≤c3)  {c0:Prop} {ch0:List (Option Value)}:Runs Try.prog (cAt [1] (bdy Try.f16)) ⟨kpsqB_s t1 t2 a o l cp c3 j,kpsqB_m t1 t2 a o l cp c3,c0,ch0⟩ (fun e s=>e= .ret∧∃(j:Nat→Value) (c:Prop) (ch:List (Option Value)),s=⟨kpsqC_s t1 t2 a o l cp c3 j,kpsqC_m t1 t2 a o l cp c3,c,ch⟩) 2:=by
  have h0:(((bstr ((wA .u8 c3 ((bL a o l) ++ [77])).extract 0 (0+l)))).toList == ((bstr (a.extract o (o+l)))).toList)=true:=(by rw[ext_bLq (lentbq hb hc3) (by rw[wA_size];omega),(lent_bLq hb hc3),ext_bLq hb hz];exact beq_self_eq_true _)
  have h1:true=true:=(by first|rfl|assumption)
  refine(runs_ev mixed _ (kpsq1p_0 t1 t2 a o l cp c3 j) ⟨⟨⟨⟨⟨⟨⟨⟨⟨⟨⟨⟨⟨⟨⟨⟨⟨⟨trivial,trivial⟩,⟨b8_extq (lentbq hb hc3) (by rw[wA_size];omega),by rw[wA_size];omega⟩⟩,trivial⟩,⟨b8_extq hb hz,hz⟩⟩,⟨trivial,h0⟩⟩,trivial⟩,trivial⟩,trivial⟩,trivial⟩,⟨trivial,(by rw[IntKind.wrap_i64];omega)⟩⟩,(by refine⟨⟨?_,?_⟩,?_,?_⟩<;>first|trivial|omega)⟩,trivial⟩,trivial⟩,(by(try simp only[Int.toNat_natCast,wA_size]);omega)⟩,⟨(at77q (bL_len a o l) hc3 (by split<;>omega)),rfl⟩⟩,⟨trivial,h1⟩⟩,trivial⟩,trivial⟩).mono ?_
  rintro e s ⟨rfl,hs⟩
  refine⟨rfl,fun q=>s.tm.getD q undef,s.c,s.ch,?_⟩
  subst hs
  kernel_rfl
theorem kpsuq (t1 t2:Tq) (a:Array Value) (o l cp c3:Nat) (j:Nat→Value) (hb:bytesAt a o l) (hz:o+l≤a.size) (hcp:l≤cp) (hl:l≤100000000) (hc3:l+1≤c3)  {c0:Prop} {ch0:List (Option Value)}:Runs Try.prog (cAt [] (bdy Try.f16)) ⟨kpsqA_s t1 t2 a o l cp c3 j,kpsqA_m t1 t2 a o l cp c3,c0,ch0⟩ (fun e s=>e= .ret∧∃(j:Nat→Value) (c:Prop) (ch:List (Option Value)),s=⟨kpsqC_s t1 t2 a o l cp c3 j,kpsqC_m t1 t2 a o l cp c3,c,ch⟩) 2:=by
  rw[show(cAt [] (bdy Try.f16))=(.seq (cAt [0] (bdy Try.f16)) (cAt [1] (bdy Try.f16))) from by kernel_rfl]
  refine runs_seq (kpsq0 t1 t2 a o l cp c3 j hb hz hcp hl hc3 ) (fun s hh=> ?_) (fun e s hne hh=>absurd hh.1 hne)
  obtain⟨_,j,c,ch,rfl⟩:=hh
  refine(kpsq1 t1 t2 a o l cp c3 j hb hz hcp hl hc3 ).mono ?_
  rintro e s ⟨rfl,j,c,ch,rfl⟩
  exact⟨rfl,j,c,ch,rfl⟩
abbrev kpnqA_s (t1:Tq) (c3:Nat) (j:Nat→Value):List Value:=([.slice (some ⟨0,0,none⟩) 0 c3,.slice none 0 0] ++ (JU 20))
abbrev kpnqA_m (t1:Tq) (c3:Nat):List Mb:= [((wA .u8 c3 (([]:List Int) ++ [77])),t1)]
abbrev kpnqB_s (t1:Tq) (c3:Nat) (j:Nat→Value):List Value:=([.slice (some ⟨0,0,none⟩) 0 c3,.slice none 0 0,j 2,j 3,.bool false] ++ (J j 5 17))
abbrev kpnqB_m (t1:Tq) (c3:Nat):List Mb:= [((wA .u8 c3 (([]:List Int) ++ [77])),t1)]
def kpnq0p_h (i:Nat):Hn:=⟨0,[],[],[],[]⟩
def kpnq0p_b (t1:Tq) (c3:Nat) (j:Nat→Value):List Value:=([.slice (some ⟨0,0,none⟩) 0 c3,.slice none 0 0,undef,undef,.bool false] ++ (JU 17))
theorem kpnq0p_0 (t1:Tq) (c3:Nat) (j:Nat→Value):evC (yty.enf tabV0 1) kpnq0p_h (cAt [0] (bdy Try.f16)) ⟨kpnqA_s t1 c3 j,kpnqA_m t1 c3,True,[]⟩=some (.normal,⟨kpnq0p_b t1 c3 j,[((wA .u8 c3 (([]:List Int) ++ [77])),t1)],(True∧True),[]⟩):=by kernel_rfl
theorem kpnq0 (t1:Tq) (c3:Nat) (j:Nat→Value) (hc3:0+1≤c3)  {c0:Prop} {ch0:List (Option Value)}:Runs Try.prog (cAt [0] (bdy Try.f16)) ⟨kpnqA_s t1 c3 j,kpnqA_m t1 c3,c0,ch0⟩ (fun e s=>e= .normal∧∃(j:Nat→Value) (c:Prop) (ch:List (Option Value)),s=⟨kpnqB_s t1 c3 j,kpnqB_m t1 c3,c,ch⟩) 1:=by
  refine(runs_ev mixed _ (kpnq0p_0 t1 c3 j) ⟨trivial,trivial⟩).mono ?_
  rintro e s ⟨rfl,hs⟩
  refine⟨rfl,fun q=>s.tm.getD q undef,s.c,s.ch,?_⟩
  subst hs
  kernel_rfl
abbrev kpnqC_s (t1:Tq) (c3:Nat) (j:Nat→Value):List Value:=(J j 0 4 ++ ([.bool true] ++ (J j 5 17)))
abbrev kpnqC_m (t1:Tq) (c3:Nat):List Mb:= [((wA .u8 c3 (([]:List Int) ++ [77])),t1)]
def kpnq1p_h (i:Nat):Hn:=⟨0,[],[],[],[]⟩
def kpnq1p_b (t1:Tq) (c3:Nat) (j:Nat→Value):List Value:=([.slice (some ⟨0,0,none⟩) 0 c3,.slice none 0 0,j 2,j 3,.bool true,.slice (some ⟨0,0,none⟩) 0 c3,.string (bstr ((wA .u8 c3 (([]:List Int) ++ [77])).extract 0 (0+0))),.slice none 0 0,.string (bstr #[]),.bool true,.bool true,.slice (some ⟨0,0,none⟩) 0 c3,.slice none 0 0,.int .i64 0,.int .i64 1,.slice (some ⟨0,(if c3=0 then 0 else 0+0*1),none⟩) 1 c3,.slice none 0 0,.int .i64 0,.pointer (some ⟨0,(if c3=0 then 0 else 0+0*1)+0,none⟩),.int .u8 77,.bool true,.bool true])
theorem kpnq1p_0 (t1:Tq) (c3:Nat) (j:Nat→Value):evC (yty.enf tabV0 1) kpnq1p_h (cAt [1] (bdy Try.f16)) ⟨kpnqB_s t1 c3 j,kpnqB_m t1 c3,True,[some (.bool true),none,some (.int .u8 77),some (.bool true)]⟩=some (.ret,⟨kpnq1p_b t1 c3 j,[((wA .u8 c3 (([]:List Int) ++ [77])),t1)],((((((((((((((((((True∧True)∧(((wA .u8 c3 (([]:List Int) ++ [77])).extract 0 (0+0)).all isB8=true∧0+0≤(wA .u8 c3 (([]:List Int) ++ [77])).size))∧True)∧True)∧(True∧(((bstr ((wA .u8 c3 (([]:List Int) ++ [77])).extract 0 (0+0)))).toList == ((bstr #[])).toList)=true))∧True)∧True)∧True)∧True)∧True)∧((True∧((0:Int)≤1))∧0≤1∧1≤c3))∧True)∧True)∧((0:Int)≤0∧(0:Int)<((1:Nat):Int)))∧(((wA .u8 c3 (([]:List Int) ++ [77]))[((if c3=0 then 0 else 0+0*1)+0)]? =some (.int .u8 77))∧(77:Int)=77))∧(True∧true=true))∧True)∧True),[]⟩):=by kernel_rfl
theorem kpnq1 (t1:Tq) (c3:Nat) (j:Nat→Value) (hc3:0+1≤c3)  {c0:Prop} {ch0:List (Option Value)}:Runs Try.prog (cAt [1] (bdy Try.f16)) ⟨kpnqB_s t1 c3 j,kpnqB_m t1 c3,c0,ch0⟩ (fun e s=>e= .ret∧∃(j:Nat→Value) (c:Prop) (ch:List (Option Value)),s=⟨kpnqC_s t1 c3 j,kpnqC_m t1 c3,c,ch⟩) 1:=by
  have h0:(((bstr ((wA .u8 c3 (([]:List Int) ++ [77])).extract 0 (0+0)))).toList == ((bstr #[])).toList)=true:=(by rw[show(wA .u8 c3 (([]:List Int) ++ [77])).extract 0 (0+0)= #[] from by simp];exact beq_self_eq_true _)
  have h1:true=true:=(by first|rfl|assumption)
  refine(runs_ev mixed _ (kpnq1p_0 t1 c3 j) ⟨⟨⟨⟨⟨⟨⟨⟨⟨⟨⟨⟨⟨⟨⟨⟨⟨⟨trivial,trivial⟩,⟨b8_extq (lentbq (a:= #[]) (o:=0) (l:=0) (fun j h=>by omega) hc3) (by rw[wA_size];omega),by rw[wA_size];omega⟩⟩,trivial⟩,trivial⟩,⟨trivial,h0⟩⟩,trivial⟩,trivial⟩,trivial⟩,trivial⟩,trivial⟩,(by refine⟨⟨?_,?_⟩,?_,?_⟩<;>first|trivial|omega)⟩,trivial⟩,trivial⟩,⟨by decide,by decide⟩⟩,⟨(at77q (N:= []) rfl hc3 (by split<;>rfl)),rfl⟩⟩,⟨trivial,h1⟩⟩,trivial⟩,trivial⟩).mono ?_
  rintro e s ⟨rfl,hs⟩
  refine⟨rfl,fun q=>s.tm.getD q undef,s.c,s.ch,?_⟩
  subst hs
  kernel_rfl
theorem kpnuq (t1:Tq) (c3:Nat) (j:Nat→Value) (hc3:0+1≤c3)  {c0:Prop} {ch0:List (Option Value)}:Runs Try.prog (cAt [] (bdy Try.f16)) ⟨kpnqA_s t1 c3 j,kpnqA_m t1 c3,c0,ch0⟩ (fun e s=>e= .ret∧∃(j:Nat→Value) (c:Prop) (ch:List (Option Value)),s=⟨kpnqC_s t1 c3 j,kpnqC_m t1 c3,c,ch⟩) 1:=by
  rw[show(cAt [] (bdy Try.f16))=(.seq (cAt [0] (bdy Try.f16)) (cAt [1] (bdy Try.f16))) from by kernel_rfl]
  refine runs_seq (kpnq0 t1 c3 j hc3 ) (fun s hh=> ?_) (fun e s hne hh=>absurd hh.1 hne)
  obtain⟨_,j,c,ch,rfl⟩:=hh
  refine(kpnq1 t1 c3 j hc3 ).mono ?_
  rintro e s ⟨rfl,j,c,ch,rfl⟩
  exact⟨rfl,j,c,ch,rfl⟩
theorem kps_cq (t1 t2:Tq) (a:Array Value) (o l cp c3:Nat) (hb:bytesAt a o l) (hz:o+l≤a.size) (hcp:l≤cp) (hl:l≤100000000) (hc3:l+1≤c3):Reads Try.prog 16 [(wA .u8 c3 (bL a o l ++ [77]),t1),(a,t2)] [.slice (some ⟨0,0,none⟩) l c3,.slice (some ⟨1,o,none⟩) l cp] (.bool true):=by
  refine reads_runs (fk:=2) (yty.enf tabV0 2) Try.func16 (c:=bdy Try.f16) (by kernel_rfl) ⟨by kernel_rfl,by decide⟩ (args:= [.slice (some ⟨0,0,none⟩) l c3,.slice (some ⟨1,o,none⟩) l cp]) (by kernel_rfl) (K:=fun e s=>e= .ret∧resS (yty.enf tabV0 2) s Try.f16.results.toList=some [.bool true]) ?_ (fun e s h=>⟨h.1,_,h.2,rfl⟩)
  refine(kpsuq t1 t2 a o l cp c3 (fun _=>undef) hb hz hcp hl hc3).mono ?_
  rintro e s ⟨rfl,j,c,ch,rfl⟩
  exact⟨rfl,by kernel_rfl⟩
theorem kpn_cq (t1:Tq) (c3:Nat) (hc3:0+1≤c3):Reads Try.prog 16 [(wA .u8 c3 (([]:List Int) ++ [77]),t1)] [.slice (some ⟨0,0,none⟩) 0 c3,.slice none 0 0] (.bool true):=by
  refine reads_runs (fk:=1) (yty.enf tabV0 1) Try.func16 (c:=bdy Try.f16) (by kernel_rfl) ⟨by kernel_rfl,by decide⟩ (args:= [.slice (some ⟨0,0,none⟩) 0 c3,.slice none 0 0]) (by kernel_rfl) (K:=fun e s=>e= .ret∧resS (yty.enf tabV0 1) s Try.f16.results.toList=some [.bool true]) ?_ (fun e s h=>⟨h.1,_,h.2,rfl⟩)
  refine(kpnuq t1 c3 (fun _=>undef) hc3).mono ?_
  rintro e s ⟨rfl,j,c,ch,rfl⟩
  exact⟨rfl,by kernel_rfl⟩
theorem BkOk.src {mem:List Mb} {bp:Option Addr} {r q:Nat} (h:BkOk mem bp r q):SrcOk .u8 mem (.slice bp r q) (bOf mem bp r):=by
  obtain⟨_,⟨rfl,rfl,rfl⟩|⟨i,o,a,t,rfl,hm,hb,hz⟩⟩:=h
  · exact src_nil
  · simp only [bOf, hm]
    exact src_b hm hb hz
def pk9p : Entry Try.prog where
  f:=16
  g := fun mem xs => match xs with
    | [.slice (some ⟨i, 0, none⟩) l k, .slice bq m cq] => (match mem[i]? with
      |some (x,_)=>some (.bool true,(x=wA .u8 k (bOf mem bq m ++ [77])∧l=m∧BkOk mem bq m cq∧m≤100000000∧m+1≤k))
      |_=>none)
    |_=>none
  ok := fun mem xs v c e hc w β hw hg => by
    split at e
    · rename_i i l k bq m cq
      split at e
      · rename_i x t1 hx
        simp only[Option.some.injEq,Prod.mk.injEq] at e
        obtain⟨rfl,rfl⟩:=e
        obtain⟨rfl,rfl,⟨hcp,hB⟩,hl,hk⟩:=hc
        rcases hB with⟨rfl,rfl,rfl⟩|⟨i2,o,src,st,rfl,hm,hb,hz⟩
        · exact kpn_cq t1 k hk w (fun _=>β i) (fun j y hy=>by
            match j,hy with
            |0,hy=>cases hy;exact hw i _ hx
            |j+1,hy=>simp at hy) (fun j hj=>absurd hj (Nat.not_lt_zero _))
        · have e1 : bOf mem (some ⟨i2, o, none⟩) l = bL src o l := by simp only [bOf, hm]
          rw[e1] at hx
          exact kps_cq t1 st src o l cq k hb hz hcp hl hk w (fun j=>if j=0 then β i else β i2) (fun j y hy=>by
            match j,hy with
            |0,hy=>cases hy;exact hw i _ hx
            |1,hy=>cases hy;exact hw i2 _ hm
            |j+2,hy=>simp at hy) (fun j hj=>absurd hj (Nat.not_lt_zero _))
      · cases e
    · cases e
  call:=call_of Try.func16 (by kernel_rfl) (by kernel_rfl)
end Go.Proofs.Ytnadkbniljejfaa

set_option linter.unusedSimpArgs false
set_option linter.unusedVariables false
/-! siv: the document's keys. -/
namespace Go.Proofs.Ytnadkbniljejfaa
open Go.RowKit Go.Ev
def f8 (E:List Int):List Int:=(List.range 8).map fun i=>E.getD i 0
theorem f8_len (E:List Int):(f8 E).length=8:=by simp[f8]
theorem map_r8 (g h:Nat→Int) (n:Nat) (H:∀ i,i<8→h i=g (8*n+i)):(List.range (8*n)).map g ++ (List.range 8).map h=(List.range (8*(n+1))).map g:=by
  rw[show 8*(n+1)=8*n+8 by omega,List.range_add,List.map_append,List.map_map]
  refine congrArg ((List.range (8*n)).map g ++ ·) (List.map_congr_left fun i hi=> ?_)
  exact H i (by simpa using hi)
theorem ky_app (K N:List Int) (n:Nat):kyL K N 0 n ++ f8 (hfL K N ((n:Nat):Int))=kyL K N 0 (n+1):=
  map_r8 (fun i=>(hfL K N ((0+i / 8:Nat):Int)).getD (i%8) 0) (fun i=>(hfL K N ((n:Nat):Int)).getD i 0) n fun i hi=>by
    show _=(hfL K N ((0+(8*n+i) / 8:Nat):Int)).getD ((8*n+i)%8) 0
    rw[show(8*n+i) / 8=n by omega,show(8*n+i)%8=i by omega,Nat.zero_add]
theorem ky_len (K N:List Int) (s n:Nat):(kyL K N s n).length=8*n:=by simp[kyL]
def cpL (X:List Int) (p i:Nat):List Int:=(List.range i).map fun k=>X.getD (p+k) 0
theorem cpL_at {X:List Int} {p i k:Nat}:(cpL X p i).getD k 0=if k<i then X.getD (p+k) 0 else 0:=by
  unfold cpL
  by_cases h:k<i
  · rw[ofFn_at h,if_pos h]
  · rw[if_neg h,List.getD_eq_getElem?_getD,List.getElem?_eq_none (by simpa using Nat.not_lt.1 h)];rfl
theorem cpL_put {n p i q:Nat} {X:List Int} {V:Int} (hi:i<n) (e:q=i) (hV:V=X.getD (p+i) 0):q<(wA .u8 n (cpL X p i)).size∧(wA .u8 n (cpL X p i)).setIfInBounds q (.int .u8 V)=wA .u8 n (cpL X p (i+1)):=by
  refine⟨by rw[wA_size];omega,?_⟩
  rw[wA_putE hi e]
  refine wA_ext (wA_size _ _ _) fun k hk=> ?_
  rw[wA_at hk,lset_at hk,cpL_at,cpL_at]
  by_cases h:k=i
  · subst h
    rw[if_pos rfl,if_pos (by omega),hV]
  · rw [if_neg h]
    by_cases h2:k<i
    · rw[if_pos h2,if_pos (by omega)]
    · rw[if_neg h2,if_neg (by omega)]
theorem cp_a (K N:List Int):wA .u8 16 (cpL (kyL K N 0 6) 0 16)=wA .u8 16 (kyL K N 0 2):=wA_ext (wA_size _ _ _) fun k hk=>by
  rw[wA_at hk,cpL_at,if_pos hk,kyL_at,kyL_at,Nat.zero_add,if_pos (by omega),if_pos (by omega)]
theorem cp_b (K N:List Int):wA .u8 32 (cpL (kyL K N 0 6) 16 32)=wA .u8 32 (kyL K N 2 4):=wA_ext (wA_size _ _ _) fun k hk=>by
  rw[wA_at hk,cpL_at,if_pos hk,kyL_at,kyL_at,if_pos (by omega),if_pos (by omega),show 0+(16+k) / 8=2+k / 8 by omega,show(16+k)%8=k%8 by omega]
def bkI (N:List Int) (x:Int) (i:Nat):List Int:=(List.range 16).map fun k=>if k<4 then(if k=0 then x else 0) else if k<4+i then N.getD (k - 4) 0 else 0
theorem bkI_0 (N:List Int) (x:Int):wA .u8 16 [x]=wA .u8 16 (bkI N x 0):=wA_ext (wA_size _ _ _) fun k hk=>by
  unfold bkI
  rw[wA_at hk,ofFn_at hk]
  cases k with
  |zero=>rfl
  | succ k =>
    simp
    intros
    omega
theorem bkI_end (N:List Int) (x:Int):bkI N x 12=blkL N x:=List.map_congr_left fun k hk=>by
  have hk:k<16:=by simpa using hk
  by_cases h:k<4
  · rw[if_pos h,if_pos h]
  · rw[if_neg h,if_neg h,if_pos (by omega)]
theorem bkI_put {N:List Int} {x:Int} {i q:Nat} (hi:i<12) (e:q=4+i):q<(wA .u8 16 (bkI N x i)).size∧(wA .u8 16 (bkI N x i)).setIfInBounds q (.int .u8 (N.getD i 0))=wA .u8 16 (bkI N x (i+1)):=by
  refine⟨by rw[wA_size];omega,?_⟩
  rw[wA_putE (p:=4+i) (by omega) e]
  refine wA_ext (wA_size _ _ _) fun k hk=> ?_
  rw[wA_at hk,lset_at hk]
  unfold bkI
  rw[ofFn_at hk,ofFn_at hk]
  by_cases h:k=4+i
  · rw[if_pos h,if_neg (by omega),if_pos (by omega),show k - 4=i by omega]
  · rw [if_neg h]
    by_cases h2:k<4
    · rw[if_pos h2,if_pos h2]
    · rw [if_neg h2, if_neg h2]
      by_cases h3:k<4+i
      · rw[if_pos h3,if_pos (by omega)]
      · rw[if_neg h3,if_neg (by omega)]
def tabZ1:List (Entry Try.prog):=pdb :: ptb :: []
abbrev dFiA_s (K N:List Int) (n:Nat) (j:Nat→Value):List Value:=([.agg (wA .u8 32 K),.agg (wA .u8 12 N),.int .i64 ((n:Nat):Int),.agg (wA .u8 256 sbT)] ++ (JU 41))
abbrev dFiA_m (K N:List Int) (n:Nat):List Mb:= []
abbrev dFiB_s (K N:List Int) (n:Nat) (j:Nat→Value):List Value:=([j 0,j 1,.int .i64 ((n:Nat):Int),j 3,.pointer (some ⟨0,0,none⟩),.pointer (some ⟨1,0,none⟩),j 6,.pointer (some ⟨2,0,none⟩)] ++ (J j 8 37))
abbrev dFiB_m (K N:List Int) (n:Nat):List Mb:= [((wA .u8 32 K),(27,(0,0))),((wA .u8 12 N),(28,(0,0))),((wA .u8 256 sbT),(53,(0,0)))]
def dFi0p_h (i:Nat):Hn:=⟨0,[],[],[],[]⟩
def dFi0p_b (K N:List Int) (n:Nat) (j:Nat→Value):List Value:=([.agg (wA .u8 32 K),.agg (wA .u8 12 N),.int .i64 ((n:Nat):Int),.agg (wA .u8 256 sbT),.pointer (some ⟨0,0,none⟩),.pointer (some ⟨1,0,none⟩),undef,.pointer (some ⟨2,0,none⟩),.slice none 0 0] ++ (JU 36))
theorem dFi0p_0 (K N:List Int) (n:Nat) (j:Nat→Value):evC (yty.en tabZ1) dFi0p_h (cAt [0] (bdy Try.f33)) ⟨dFiA_s K N n j,dFiA_m K N n,True,[]⟩=some (.normal,⟨dFi0p_b K N n j,[((wA .u8 32 K),(27,(0,0))),((wA .u8 12 N),(28,(0,0))),((wA .u8 256 sbT),(53,(0,0)))],(True∧True),[]⟩):=by kernel_rfl
theorem dFi0 (K N:List Int) (n:Nat) (j:Nat→Value) (hK:By K) (hN:By N) (hn:n<6)  {c0:Prop} {ch0:List (Option Value)}:Runs Try.prog (cAt [0] (bdy Try.f33)) ⟨dFiA_s K N n j,dFiA_m K N n,c0,ch0⟩ (fun e s=>e= .normal∧∃(j:Nat→Value) (c:Prop) (ch:List (Option Value)),s=⟨dFiB_s K N n j,dFiB_m K N n,c,ch⟩) 0:=by
  refine(runs_ev mixed _ (dFi0p_0 K N n j) ⟨trivial,trivial⟩).mono ?_
  rintro e s ⟨rfl,hs⟩
  refine⟨rfl,fun q=>s.tm.getD q undef,s.c,s.ch,?_⟩
  subst hs
  kernel_rfl
abbrev dFiC_s (K N:List Int) (n:Nat) (x:Int) (j:Nat→Value):List Value:=(J j 0 4 ++ ([.pointer (some ⟨0,0,none⟩),.pointer (some ⟨1,0,none⟩),j 6,.pointer (some ⟨2,0,none⟩),j 8,.pointer (some ⟨3,0,none⟩)] ++ (J j 10 35)))
abbrev dFiC_m (K N:List Int) (n:Nat) (x:Int):List Mb:= [((wA .u8 32 K),(27,(0,0))),((wA .u8 12 N),(28,(0,0))),((wA .u8 256 sbT),(53,(0,0))),((wA .u8 16 [x]),(22,(0,0)))]
def dFi1p_h (i:Nat):Hn:=⟨0,[],[],[],[]⟩
def dFi1p_b (K N:List Int) (n:Nat) (j:Nat→Value):List Value:=([j 0,j 1,.int .i64 ((n:Nat):Int),j 3,.pointer (some ⟨0,0,none⟩),.pointer (some ⟨1,0,none⟩),j 6,.pointer (some ⟨2,0,none⟩),j 8,.pointer (some ⟨3,0,none⟩),j 10,.int .i64 ((n:Nat):Int),.int .u8 ((n%256:Nat):Int),.agg (wA .u8 16 [((n%256:Nat):Int)])] ++ (J j 14 31))
theorem dFi1p_0 (K N:List Int) (n:Nat) (j:Nat→Value):evC (yty.en tabZ1) dFi1p_h (cAt [1,0] (bdy Try.f33)) ⟨dFiB_s K N n j,dFiB_m K N n,True,[some (.int .u8 ((n%256:Nat):Int))]⟩=some (.normal,⟨dFi1p_b K N n j,[((wA .u8 32 K),(27,(0,0))),((wA .u8 12 N),(28,(0,0))),((wA .u8 256 sbT),(53,(0,0))),((wA .u8 16 [((n%256:Nat):Int)]),(22,(0,0)))],((((True∧True)∧(True∧(IntKind.u8.wrap ((n:Nat):Int))=((n%256:Nat):Int)))∧True)∧((wA .u8 16 [((n%256:Nat):Int)]).all (fun v=>v.oneCell')=true)),[]⟩):=by kernel_rfl
theorem dFi1 (K N:List Int) (n:Nat) (j:Nat→Value) (hK:By K) (hN:By N) (hn:n<6)  {c0:Prop} {ch0:List (Option Value)}:Runs Try.prog (cAt [1,0] (bdy Try.f33)) ⟨dFiB_s K N n j,dFiB_m K N n,c0,ch0⟩ (fun e s=>e= .normal∧∃(j:Nat→Value) (c:Prop) (ch:List (Option Value)),(((n%256:Nat):Int)=((n:Nat):Int))∧s=⟨dFiC_s K N n ((n%256:Nat):Int) j,dFiC_m K N n ((n%256:Nat):Int),c,ch⟩) 0:=by
  refine(runs_ev mixed _ (dFi1p_0 K N n j) ⟨⟨⟨⟨trivial,trivial⟩,⟨trivial,(by rw[IntKind.wrap_u8];omega)⟩⟩,trivial⟩,(wA_one _ _ _)⟩).mono ?_
  rintro e s ⟨rfl,hs⟩
  refine⟨rfl,fun q=>s.tm.getD q undef,s.c,s.ch,by omega,?_⟩
  subst hs
  kernel_rfl
abbrev dFiD_s (K N:List Int) (n:Nat) (x:Int) (i:Nat) (j:Nat→Value):List Value:=(J j 0 4 ++ ([.pointer (some ⟨0,0,none⟩),.pointer (some ⟨1,0,none⟩),j 6,.pointer (some ⟨2,0,none⟩),j 8,.pointer (some ⟨3,0,none⟩),.int .i64 ((i:Nat):Int)] ++ (J j 11 34)))
abbrev dFiD_m (K N:List Int) (n:Nat) (x:Int) (i:Nat):List Mb:= [((wA .u8 32 K),(27,(0,0))),((wA .u8 12 N),(28,(0,0))),((wA .u8 256 sbT),(53,(0,0))),((wA .u8 16 (bkI N x i)),(22,(0,0)))]
def dFi2p_h (i:Nat):Hn:=⟨0,[],[],[],[]⟩
def dFi2p_b (K N:List Int) (n:Nat) (x:Int) (j:Nat→Value):List Value:=(J j 0 4 ++ ([.pointer (some ⟨0,0,none⟩),.pointer (some ⟨1,0,none⟩),j 6,.pointer (some ⟨2,0,none⟩),j 8,.pointer (some ⟨3,0,none⟩),.int .i64 0] ++ (J j 11 34)))
theorem dFi2p_0 (K N:List Int) (n:Nat) (x:Int) (j:Nat→Value):evC (yty.en tabZ1) dFi2p_h (cAt [1,1,0,0] (bdy Try.f33)) ⟨dFiC_s K N n x j,dFiC_m K N n x,True,[]⟩=some (.normal,⟨dFi2p_b K N n x j,[((wA .u8 32 K),(27,(0,0))),((wA .u8 12 N),(28,(0,0))),((wA .u8 256 sbT),(53,(0,0))),((wA .u8 16 [x]),(22,(0,0)))],(True∧True),[]⟩):=by kernel_rfl
theorem dFi2 (K N:List Int) (n:Nat) (x:Int) (j:Nat→Value) (hK:By K) (hN:By N) (hn:n<6) (hx:x=((n:Nat):Int))  {c0:Prop} {ch0:List (Option Value)}:Runs Try.prog (cAt [1,1,0,0] (bdy Try.f33)) ⟨dFiC_s K N n x j,dFiC_m K N n x,c0,ch0⟩ (fun e s=>e= .normal∧∃(j:Nat→Value) (c:Prop) (ch:List (Option Value)),(0≤12)∧s=⟨dFiD_s K N n x 0 j,dFiD_m K N n x 0,c,ch⟩) 0:=by
  refine(runs_ev mixed _ (dFi2p_0 K N n x j) ⟨trivial,trivial⟩).mono ?_
  rintro e s ⟨rfl,hs⟩
  refine⟨rfl,fun q=>s.tm.getD q undef,s.c,s.ch,by omega,?_⟩
  subst hs
  rw[bkI_0 N x]
  kernel_rfl
def dFi3p_h (i:Nat):Hn:=⟨0,[],[],[],[]⟩
def dFi3p_b (K N:List Int) (n:Nat) (x:Int) (i:Nat) (j:Nat→Value):List Value:=(J j 0 4 ++ ([.pointer (some ⟨0,0,none⟩),.pointer (some ⟨1,0,none⟩),j 6,.pointer (some ⟨2,0,none⟩),j 8,.pointer (some ⟨3,0,none⟩),.int .i64 ((i+1:Nat):Int)] ++ (J j 11 3 ++ ([.int .i64 ((i:Nat):Int),.bool true,.int .i64 ((i:Nat):Int),.int .i64 ((i+1:Nat):Int),.int .i64 ((i:Nat):Int),.int .i64 ((4+i:Nat):Int),.int .i64 ((i:Nat):Int),.pointer (some ⟨1,0+Int.toNat ((i:Nat):Int)*1,none⟩),.int .u8 (N.getD i 0),.pointer (some ⟨3,0+Int.toNat ((4+i:Nat):Int)*1,none⟩)] ++ (J j 24 21)))))
theorem dFi3p_0 (K N:List Int) (n:Nat) (x:Int) (i:Nat) (j:Nat→Value):evC (yty.en tabZ1) dFi3p_h (cAt [1,1,0,1,0,0] (bdy Try.f33)) ⟨dFiD_s K N n x i j,dFiD_m K N n x i,True,[some (.bool true),some (.int .i64 ((4+i:Nat):Int)),some (.int .u8 (N.getD i 0)),some (.agg (wA .u8 16 (bkI N x (i+1)))),some (.int .i64 ((i+1:Nat):Int))]⟩=some (.normal,⟨dFi3p_b K N n x i j,[((wA .u8 32 K),(27,(0,0))),((wA .u8 12 N),(28,(0,0))),((wA .u8 256 sbT),(53,(0,0))),((wA .u8 16 (bkI N x (i+1))),(22,(0,0)))],((((((((((((True∧True)∧(True∧(decide (((i:Nat):Int)<12))=true))∧True)∧(True∧(IntKind.i64.wrap (4+((i:Nat):Int)))=((4+i:Nat):Int)))∧True)∧(0≤((i:Nat):Int)∧((i:Nat):Int)<((12:Nat):Int)))∧(((wA .u8 12 N)[(0+Int.toNat ((i:Nat):Int)*1)]? =some (.int .u8 (N.getD i 0)))∧(N.getD i 0)=(N.getD i 0)))∧(0≤((4+i:Nat):Int)∧((4+i:Nat):Int)<((16:Nat):Int)))∧((0+Int.toNat ((4+i:Nat):Int)*1)<(wA .u8 16 (bkI N x i)).size∧(wA .u8 16 (bkI N x i)).setIfInBounds (0+Int.toNat ((4+i:Nat):Int)*1) (.int .u8 (N.getD i 0))=(wA .u8 16 (bkI N x (i+1)))))∧True)∧(True∧(IntKind.i64.wrap (((i:Nat):Int)+1))=((i+1:Nat):Int)))∧True),[]⟩):=by kernel_rfl
theorem dFi3 (K N:List Int) (n:Nat) (x:Int) (i:Nat) (j:Nat→Value) (hK:By K) (hN:By N) (hn:n<6) (hx:x=((n:Nat):Int)) (hi:i≤12) (hlt:i<12) {c0:Prop} {ch0:List (Option Value)}:Runs Try.prog (cAt [1,1,0,1,0,0] (bdy Try.f33)) ⟨dFiD_s K N n x i j,dFiD_m K N n x i,c0,ch0⟩ (fun e s=>e= .normal∧∃(j:Nat→Value) (c:Prop) (ch:List (Option Value)),((i+1)≤12)∧s=⟨dFiD_s K N n x (i+1) j,dFiD_m K N n x (i+1),c,ch⟩) 0:=by
  have h0:(decide (((i:Nat):Int)<12))=true:=(decide_eq_true (by omega))
  refine(runs_ev mixed _ (dFi3p_0 K N n x i j) ⟨⟨⟨⟨⟨⟨⟨⟨⟨⟨⟨⟨trivial,trivial⟩,⟨trivial,h0⟩⟩,trivial⟩,⟨trivial,(by rw[IntKind.wrap_i64];omega)⟩⟩,trivial⟩,(by(try simp only[Int.toNat_natCast,wA_size]);omega)⟩,⟨(wA_get (by omega) (by omega)),rfl⟩⟩,(by(try simp only[Int.toNat_natCast,wA_size]);omega)⟩,bkI_put hlt (by rw[Int.toNat_natCast];omega)⟩,trivial⟩,⟨trivial,(by rw[IntKind.wrap_i64];omega)⟩⟩,trivial⟩).mono ?_
  rintro e s ⟨rfl,hs⟩
  refine⟨rfl,fun q=>s.tm.getD q undef,s.c,s.ch,by omega,?_⟩
  subst hs
  kernel_rfl
abbrev dFiE_s (K N:List Int) (n:Nat) (x:Int) (i:Nat) (j:Nat→Value):List Value:=(J j 0 4 ++ ([.pointer (some ⟨0,0,none⟩),.pointer (some ⟨1,0,none⟩),j 6,.pointer (some ⟨2,0,none⟩),j 8,.pointer (some ⟨3,0,none⟩)] ++ (J j 10 35)))
abbrev dFiE_m (K N:List Int) (n:Nat) (x:Int) (i:Nat):List Mb:= [((wA .u8 32 K),(27,(0,0))),((wA .u8 12 N),(28,(0,0))),((wA .u8 256 sbT),(53,(0,0))),((wA .u8 16 (blkL N x)),(22,(0,0)))]
def dFi4p_h (i:Nat):Hn:=⟨0,[],[],[],[]⟩
def dFi4p_b (K N:List Int) (n:Nat) (x:Int) (i:Nat) (j:Nat→Value):List Value:=(J j 0 4 ++ ([.pointer (some ⟨0,0,none⟩),.pointer (some ⟨1,0,none⟩),j 6,.pointer (some ⟨2,0,none⟩),j 8,.pointer (some ⟨3,0,none⟩),.int .i64 ((i:Nat):Int)] ++ (J j 11 3 ++ ([.int .i64 ((i:Nat):Int),.bool false] ++ (J j 16 29)))))
theorem dFi4p_0 (K N:List Int) (n:Nat) (x:Int) (i:Nat) (j:Nat→Value):evC (yty.en tabZ1) dFi4p_h (cAt [1,1,0,1,0,0] (bdy Try.f33)) ⟨dFiD_s K N n x i j,dFiD_m K N n x i,True,[some (.bool false)]⟩=some ((.exit 0),⟨dFi4p_b K N n x i j,[((wA .u8 32 K),(27,(0,0))),((wA .u8 12 N),(28,(0,0))),((wA .u8 256 sbT),(53,(0,0))),((wA .u8 16 (bkI N x i)),(22,(0,0)))],((True∧True)∧(True∧(decide (((i:Nat):Int)<12))=false)),[]⟩):=by kernel_rfl
theorem dFi4 (K N:List Int) (n:Nat) (x:Int) (i:Nat) (j:Nat→Value) (hK:By K) (hN:By N) (hn:n<6) (hx:x=((n:Nat):Int)) (hi:i≤12) (hge:¬ i<12) {c0:Prop} {ch0:List (Option Value)}:Runs Try.prog (cAt [1,1,0,1,0,0] (bdy Try.f33)) ⟨dFiD_s K N n x i j,dFiD_m K N n x i,c0,ch0⟩ (fun e s=>e=(.exit 0)∧∃(j:Nat→Value) (c:Prop) (ch:List (Option Value)),s=⟨dFiE_s K N n x i j,dFiE_m K N n x i,c,ch⟩) 0:=by
  have h0:(decide (((i:Nat):Int)<12))=false:=(decide_eq_false (by omega))
  refine(runs_ev mixed _ (dFi4p_0 K N n x i j) ⟨⟨trivial,trivial⟩,⟨trivial,h0⟩⟩).mono ?_
  rintro e s ⟨rfl,hs⟩
  refine⟨rfl,fun q=>s.tm.getD q undef,s.c,s.ch,?_⟩
  subst hs
  rw[show i=12 by omega,bkI_end]
  kernel_rfl
theorem dFi5L (K:List Int) (N:List Int) (n:Nat) (x:Int) (j:Nat→Value) (hK:By K) (hN:By N) (hn:n<6) (hx:x=((n:Nat):Int)) (ihi:0≤12)  {c0:Prop} {ch0:List (Option Value)}:Runs Try.prog (.loop (cAt [1,1,0,1,0,0] (bdy Try.f33))) ⟨dFiD_s K N n x 0 j,dFiD_m K N n x 0,c0,ch0⟩ (fun e s=>e= .exit 0∧∃(i:Nat) (j:Nat→Value) (c:Prop) (ch:List (Option Value)),s=⟨dFiE_s K N n x i j,dFiE_m K N n x i,c,ch⟩) 0:=by
  refine runs_loop (fun M s=>∃(i:Nat) (j:Nat→Value) (c:Prop) (ch:List (Option Value)),(i≤12)∧M=12 - i∧s=⟨dFiD_s K N n x i j,dFiD_m K N n x i,c,ch⟩) (12 - 0) ⟨0,j,c0,ch0,ihi,rfl,rfl⟩ ?_
  rintro M s ⟨i,j,c,ch,hi,rfl,rfl⟩
  by_cases hlt:i<12
  · skip
    refine(dFi3 K N n x i j hK hN hn hx hi hlt).mono ?_
    rintro e s ⟨rfl,j,c,ch,f4,rfl⟩
    exact .inl ⟨rfl,12 - (i+1),by omega,⟨(i+1),j,c,ch,f4,rfl,rfl⟩⟩
  · refine (dFi4 K N n x i j hK hN hn hx hi hlt).mono ?_
    intro e s hh
    obtain⟨rfl,j,c,ch,rfl⟩:=hh
    exact .inr ⟨by simp,rfl,i,j,c,ch,rfl⟩
theorem dFi5 (K:List Int) (N:List Int) (n:Nat) (x:Int) (j:Nat→Value) (hK:By K) (hN:By N) (hn:n<6) (hx:x=((n:Nat):Int)) (ihi:0≤12)  {c0:Prop} {ch0:List (Option Value)}:Runs Try.prog (cAt [1,1,0,1] (bdy Try.f33)) ⟨dFiD_s K N n x 0 j,dFiD_m K N n x 0,c0,ch0⟩ (fun e s=>e= .normal∧∃(i:Nat) (j:Nat→Value) (c:Prop) (ch:List (Option Value)),s=⟨dFiE_s K N n x i j,dFiE_m K N n x i,c,ch⟩) 0:=by
  rw[show(cAt [1,1,0,1] (bdy Try.f33))= .block 0 (.loop (cAt [1,1,0,1,0,0] (bdy Try.f33))) from by kernel_rfl]
  refine runs_block (dFi5L K N n x j hK hN hn hx ihi ) ?_
  rintro e s ⟨rfl,hh⟩
  exact .inl ⟨rfl,rfl,hh⟩
theorem dFi6 (K N:List Int) (n:Nat) (x:Int) (j:Nat→Value) (hK:By K) (hN:By N) (hn:n<6) (hx:x=((n:Nat):Int))  {c0:Prop} {ch0:List (Option Value)}:Runs Try.prog (cAt [1,1,0] (bdy Try.f33)) ⟨dFiC_s K N n x j,dFiC_m K N n x,c0,ch0⟩ (fun e s=>e= .normal∧∃(i1:Nat) (j:Nat→Value) (c:Prop) (ch:List (Option Value)),s=⟨dFiE_s K N n x i1 j,dFiE_m K N n x i1,c,ch⟩) 0:=by
  rw[show(cAt [1,1,0] (bdy Try.f33))=(.seq (cAt [1,1,0,0] (bdy Try.f33)) (cAt [1,1,0,1] (bdy Try.f33))) from by kernel_rfl]
  refine runs_seq (dFi2 K N n x j hK hN hn hx ) (fun s hh=> ?_) (fun e s hne hh=>absurd hh.1 hne)
  obtain⟨_,j,c,ch,f0_4,rfl⟩:=hh
  refine(dFi5 K N n x j hK hN hn hx f0_4 ).mono ?_
  rintro e s ⟨rfl,i1,j,c,ch,rfl⟩
  exact⟨rfl,i1,j,c,ch,rfl⟩
abbrev dFiF_s (K N:List Int) (n:Nat) (x:Int) (i:Nat) (E:List Int) (j:Nat→Value):List Value:=(J j 0 4 ++ ([.pointer (some ⟨0,0,none⟩),.pointer (some ⟨1,0,none⟩),j 6,.pointer (some ⟨2,0,none⟩),j 8,.pointer (some ⟨3,0,none⟩)] ++ (J j 10 35)))
abbrev dFiF_m (K N:List Int) (n:Nat) (x:Int) (i:Nat) (E:List Int):List Mb:= [((wA .u8 32 K),(27,(0,0))),((wA .u8 12 N),(28,(0,0))),((wA .u8 256 sbT),(53,(0,0))),((wA .u8 16 E),(22,(0,0)))]
def dFi7p_h (i:Nat):Hn:=⟨0,[],[],[],[]⟩
def dFi7p_b (K N:List Int) (n:Nat) (x:Int) (i:Nat) (j:Nat→Value):List Value:=(J j 0 4 ++ ([.pointer (some ⟨0,0,none⟩),.pointer (some ⟨1,0,none⟩),j 6,.pointer (some ⟨2,0,none⟩),j 8,.pointer (some ⟨3,0,none⟩)] ++ (J j 10 14 ++ ([.agg (wA .u8 32 K),.agg (wA .u8 16 (blkL N x)),.agg (wA .u8 256 sbT),.agg (wA .u8 16 (encL (dL8 (wA .u8 32 K)) (dL8 (wA .u8 16 (blkL N x)))))] ++ (J j 28 17)))))
theorem dFi7p_0 (K N:List Int) (n:Nat) (x:Int) (i:Nat) (j:Nat→Value):evC (yty.en tabZ1) dFi7p_h (cAt [1,1,1,0] (bdy Try.f33)) ⟨dFiE_s K N n x i j,dFiE_m K N n x i,True,[]⟩=some (.normal,⟨dFi7p_b K N n x i j,[((wA .u8 32 K),(27,(0,0))),((wA .u8 12 N),(28,(0,0))),((wA .u8 256 sbT),(53,(0,0))),((wA .u8 16 (encL (dL8 (wA .u8 32 K)) (dL8 (wA .u8 16 (blkL N x))))),(22,(0,0)))],(((((True∧True)∧True)∧True)∧(((wA .u8 32 K)=wA .u8 32 (dL8 (wA .u8 32 K))∧By (dL8 (wA .u8 32 K)))∧((wA .u8 16 (blkL N x))=wA .u8 16 (dL8 (wA .u8 16 (blkL N x)))∧By (dL8 (wA .u8 16 (blkL N x))))∧(wA .u8 256 sbT)=wA .u8 256 sbT))∧((wA .u8 16 (encL (dL8 (wA .u8 32 K)) (dL8 (wA .u8 16 (blkL N x))))).all (fun v=>v.oneCell')=true)),[]⟩):=by kernel_rfl
theorem dFi7 (K N:List Int) (n:Nat) (x:Int) (i:Nat) (j:Nat→Value) (hK:By K) (hN:By N) (hn:n<6) (hx:x=((n:Nat):Int))  {c0:Prop} {ch0:List (Option Value)}:Runs Try.prog (cAt [1,1,1,0] (bdy Try.f33)) ⟨dFiE_s K N n x i j,dFiE_m K N n x i,c0,ch0⟩ (fun e s=>e= .normal∧∃(j:Nat→Value) (c:Prop) (ch:List (Option Value)),((encL (dL8 (wA .u8 32 K)) (dL8 (wA .u8 16 (blkL N x))))=hfL K N ((n:Nat):Int))∧s=⟨dFiF_s K N n x i (encL (dL8 (wA .u8 32 K)) (dL8 (wA .u8 16 (blkL N x)))) j,dFiF_m K N n x i (encL (dL8 (wA .u8 32 K)) (dL8 (wA .u8 16 (blkL N x)))),c,ch⟩) 0:=by
  refine(runs_ev mixed _ (dFi7p_0 K N n x i j) ⟨⟨⟨⟨⟨trivial,trivial⟩,trivial⟩,trivial⟩,⟨dq hK,dq (blkL_by hN (by omega)),rfl⟩⟩,(wA_one _ _ _)⟩).mono ?_
  rintro e s ⟨rfl,hs⟩
  refine⟨rfl,fun q=>s.tm.getD q undef,s.c,s.ch,by rw[encL_q,hx];rfl,?_⟩
  subst hs
  kernel_rfl
abbrev dFiG_s (K N:List Int) (n:Nat) (x:Int) (i:Nat) (E:List Int) (j:Nat→Value):List Value:=(J j 0 8 ++ ([.slice (some ⟨4,0,none⟩) 8 8] ++ (J j 9 36)))
abbrev dFiG_m (K N:List Int) (n:Nat) (x:Int) (i:Nat) (E:List Int):List Mb:= [((wA .u8 32 K),(27,(0,0))),((wA .u8 12 N),(28,(0,0))),((wA .u8 256 sbT),(53,(0,0))),((wA .u8 16 E),(22,(0,0))),((wA .u8 8 (f8 E)),(5,(0,0)))]
def dFi8p_h (i:Nat):Hn:=⟨0,[],[],[],[]⟩
def dFi8p_b (K N:List Int) (n:Nat) (x:Int) (i:Nat) (E:List Int) (j:Nat→Value):List Value:=(J j 0 4 ++ ([.pointer (some ⟨0,0,none⟩),.pointer (some ⟨1,0,none⟩),j 6,.pointer (some ⟨2,0,none⟩),.slice (some ⟨4,0,none⟩) 8 8,.pointer (some ⟨3,0,none⟩)] ++ (J j 10 18 ++ ([.pointer (some ⟨3,0,none⟩),.int .u8 (E.getD 0 0),.pointer (some ⟨3,1,none⟩),.int .u8 (E.getD 1 0),.pointer (some ⟨3,2,none⟩),.int .u8 (E.getD 2 0),.pointer (some ⟨3,3,none⟩),.int .u8 (E.getD 3 0),.pointer (some ⟨3,4,none⟩),.int .u8 (E.getD 4 0),.pointer (some ⟨3,5,none⟩),.int .u8 (E.getD 5 0),.pointer (some ⟨3,6,none⟩),.int .u8 (E.getD 6 0),.pointer (some ⟨3,7,none⟩),.int .u8 (E.getD 7 0),.slice (some ⟨4,0,none⟩) 8 8]))))
theorem dFi8p_0 (K N:List Int) (n:Nat) (x:Int) (i:Nat) (E:List Int) (j:Nat→Value):evC (yty.en tabZ1) dFi8p_h (cAt [1,1,1,1] (bdy Try.f33)) ⟨dFiF_s K N n x i E j,dFiF_m K N n x i E,True,[some (.int .u8 (E.getD 0 0)),some (.int .u8 (E.getD 1 0)),some (.int .u8 (E.getD 2 0)),some (.int .u8 (E.getD 3 0)),some (.int .u8 (E.getD 4 0)),some (.int .u8 (E.getD 5 0)),some (.int .u8 (E.getD 6 0)),some (.int .u8 (E.getD 7 0))]⟩=some (.ret,⟨dFi8p_b K N n x i E j,[((wA .u8 32 K),(27,(0,0))),((wA .u8 12 N),(28,(0,0))),((wA .u8 256 sbT),(53,(0,0))),((wA .u8 16 E),(22,(0,0))),((wA .u8 8 [(E.getD 0 0),(E.getD 1 0),(E.getD 2 0),(E.getD 3 0),(E.getD 4 0),(E.getD 5 0),(E.getD 6 0),(E.getD 7 0)]),(5,(0,0)))],(((((((((((((((((True∧((0:Int)≤0∧(0:Int)<((16:Nat):Int)))∧(((wA .u8 16 E)[0]? =some (.int .u8 (E.getD 0 0)))∧(E.getD 0 0)=(E.getD 0 0)))∧((0:Int)≤1∧(1:Int)<((16:Nat):Int)))∧(((wA .u8 16 E)[1]? =some (.int .u8 (E.getD 1 0)))∧(E.getD 1 0)=(E.getD 1 0)))∧((0:Int)≤2∧(2:Int)<((16:Nat):Int)))∧(((wA .u8 16 E)[2]? =some (.int .u8 (E.getD 2 0)))∧(E.getD 2 0)=(E.getD 2 0)))∧((0:Int)≤3∧(3:Int)<((16:Nat):Int)))∧(((wA .u8 16 E)[3]? =some (.int .u8 (E.getD 3 0)))∧(E.getD 3 0)=(E.getD 3 0)))∧((0:Int)≤4∧(4:Int)<((16:Nat):Int)))∧(((wA .u8 16 E)[4]? =some (.int .u8 (E.getD 4 0)))∧(E.getD 4 0)=(E.getD 4 0)))∧((0:Int)≤5∧(5:Int)<((16:Nat):Int)))∧(((wA .u8 16 E)[5]? =some (.int .u8 (E.getD 5 0)))∧(E.getD 5 0)=(E.getD 5 0)))∧((0:Int)≤6∧(6:Int)<((16:Nat):Int)))∧(((wA .u8 16 E)[6]? =some (.int .u8 (E.getD 6 0)))∧(E.getD 6 0)=(E.getD 6 0)))∧((0:Int)≤7∧(7:Int)<((16:Nat):Int)))∧(((wA .u8 16 E)[7]? =some (.int .u8 (E.getD 7 0)))∧(E.getD 7 0)=(E.getD 7 0)))∧True),[]⟩):=by kernel_rfl
theorem dFi8 (K N:List Int) (n:Nat) (x:Int) (i:Nat) (E:List Int) (j:Nat→Value) (hE:E=hfL K N ((n:Nat):Int))  {c0:Prop} {ch0:List (Option Value)}:Runs Try.prog (cAt [1,1,1,1] (bdy Try.f33)) ⟨dFiF_s K N n x i E j,dFiF_m K N n x i E,c0,ch0⟩ (fun e s=>e= .ret∧∃(j:Nat→Value) (c:Prop) (ch:List (Option Value)),s=⟨dFiG_s K N n x i E j,dFiG_m K N n x i E,c,ch⟩) 0:=by
  refine(runs_ev mixed _ (dFi8p_0 K N n x i E j) ⟨⟨⟨⟨⟨⟨⟨⟨⟨⟨⟨⟨⟨⟨⟨⟨⟨trivial,⟨by decide,by decide⟩⟩,⟨(wA_get (by omega) (by omega)),rfl⟩⟩,⟨by decide,by decide⟩⟩,⟨(wA_get (by omega) (by omega)),rfl⟩⟩,⟨by decide,by decide⟩⟩,⟨(wA_get (by omega) (by omega)),rfl⟩⟩,⟨by decide,by decide⟩⟩,⟨(wA_get (by omega) (by omega)),rfl⟩⟩,⟨by decide,by decide⟩⟩,⟨(wA_get (by omega) (by omega)),rfl⟩⟩,⟨by decide,by decide⟩⟩,⟨(wA_get (by omega) (by omega)),rfl⟩⟩,⟨by decide,by decide⟩⟩,⟨(wA_get (by omega) (by omega)),rfl⟩⟩,⟨by decide,by decide⟩⟩,⟨(wA_get (by omega) (by omega)),rfl⟩⟩,trivial⟩).mono ?_
  rintro e s ⟨rfl,hs⟩
  refine⟨rfl,fun q=>s.tm.getD q undef,s.c,s.ch,?_⟩
  subst hs
  kernel_rfl
theorem dFiu (K N:List Int) (n:Nat) (j:Nat→Value) (hK:By K) (hN:By N) (hn:n<6)  {c0:Prop} {ch0:List (Option Value)}:Runs Try.prog (cAt [] (bdy Try.f33)) ⟨dFiA_s K N n j,dFiA_m K N n,c0,ch0⟩ (fun e s=>e= .ret∧∃(i12:Nat) (j:Nat→Value) (c:Prop) (ch:List (Option Value)),((encL (dL8 (wA .u8 32 K)) (dL8 (wA .u8 16 (blkL N ((n%256:Nat):Int)))))=hfL K N ((n:Nat):Int))∧s=⟨dFiG_s K N n ((n%256:Nat):Int) i12 (encL (dL8 (wA .u8 32 K)) (dL8 (wA .u8 16 (blkL N ((n%256:Nat):Int))))) j,dFiG_m K N n ((n%256:Nat):Int) i12 (encL (dL8 (wA .u8 32 K)) (dL8 (wA .u8 16 (blkL N ((n%256:Nat):Int))))),c,ch⟩) 0:=by
  rw[show(cAt [] (bdy Try.f33))=(.seq (cAt [0] (bdy Try.f33)) (.seq (cAt [1,0] (bdy Try.f33)) (.seq (cAt [1,1,0] (bdy Try.f33)) (.seq (cAt [1,1,1,0] (bdy Try.f33)) (cAt [1,1,1,1] (bdy Try.f33)))))) from by kernel_rfl]
  refine runs_seq (dFi0 K N n j hK hN hn ) (fun s hh=> ?_) (fun e s hne hh=>absurd hh.1 hne)
  obtain⟨_,j,c,ch,rfl⟩:=hh
  refine runs_seq (dFi1 K N n j hK hN hn ) (fun s hh=> ?_) (fun e s hne hh=>absurd hh.1 hne)
  obtain⟨_,j,c,ch,f1_3,rfl⟩:=hh
  refine runs_seq (dFi6 K N n ((n%256:Nat):Int) j hK hN hn f1_3 ) (fun s hh=> ?_) (fun e s hne hh=>absurd hh.1 hne)
  obtain⟨_,i12,j,c,ch,rfl⟩:=hh
  refine runs_seq (dFi7 K N n ((n%256:Nat):Int) i12 j hK hN hn f1_3 ) (fun s hh=> ?_) (fun e s hne hh=>absurd hh.1 hne)
  obtain⟨_,j,c,ch,f3_0,rfl⟩:=hh
  refine(dFi8 K N n ((n%256:Nat):Int) i12 (encL (dL8 (wA .u8 32 K)) (dL8 (wA .u8 16 (blkL N ((n%256:Nat):Int))))) j f3_0 ).mono ?_
  rintro e s ⟨rfl,j,c,ch,rfl⟩
  exact⟨rfl,i12,j,c,ch,f3_0,rfl⟩
theorem dFi_c (K N:List Int) (n:Nat) (hK:By K) (hN:By N) (hn:n<6):Makes Try.prog 33 [] [.agg (wA .u8 32 K),.agg (wA .u8 12 N),.int .i64 ((n:Nat):Int),.agg (wA .u8 256 sbT)] (wA .u8 8 (f8 (hfL K N ((n:Nat):Int)))) 5 8 8:=by
  refine makes_runs (fk:=0) Try.func33 (c:=bdy Try.f33) (by kernel_rfl) ⟨rfl,by decide⟩ (args:= [.agg (wA .u8 32 K),.agg (wA .u8 12 N),.int .i64 ((n:Nat):Int),.agg (wA .u8 256 sbT)]) (by kernel_rfl) (r:=8) (by kernel_rfl) (dFiu K N n (fun _=>undef) hK hN hn) ?_
  rintro e s ⟨rfl,i,j,c,ch,hE,rfl⟩
  refine⟨rfl,4,by decide,rfl,?_⟩
  rw[← hE]
  rfl
def mFirst : Maker Try.prog where
  f:=33
  g := fun mem xs => match xs with
    | [.agg a,.agg b,.int k x,.agg d]=>some (wA .u8 8 (f8 (hfL (dL8 a) (dL8 b) x)),5,8,8,(((a=wA .u8 32 (dL8 a)∧By (dL8 a))∧(b=wA .u8 12 (dL8 b)∧By (dL8 b)))∧k= .i64∧d=wA .u8 256 sbT∧0≤x∧x<6))
    |_=>none
  ok := fun mem xs cs t n k c e hc w β hw hg => by
    split at e
    · rename_i a b q x d
      simp only[Option.some.injEq,Prod.mk.injEq] at e
      obtain⟨rfl,rfl,rfl,rfl,rfl⟩:=e
      obtain⟨⟨⟨h1,h2⟩,h3,h4⟩,rfl,rfl,hx⟩:=hc
      have:=dFi_c (dL8 a) (dL8 b) x.toNat h2 h4 (by omega) w β (fun i x hx=>by simp at hx) (fun i hi=>by simp at hi)
      rw[show((x.toNat:Nat):Int)=x by omega] at this
      rw[← h1,← h3] at this
      exact this
    · cases e
  call:=call_of Try.func33 (by kernel_rfl) (by kernel_rfl)
abbrev dKyA_s (K N:List Int) (j:Nat→Value):List Value:=([.agg (wA .u8 32 K),.agg (wA .u8 12 N)] ++ (JU 46))
abbrev dKyA_m (K N:List Int):List Mb:= []
abbrev dKyB_s (K N:List Int) (j:Nat→Value):List Value:=([j 0,j 1,.pointer (some ⟨0,0,none⟩),.pointer (some ⟨1,0,none⟩),.pointer (some ⟨2,0,none⟩),.pointer (some ⟨3,0,none⟩)] ++ (J j 6 42))
abbrev dKyB_m (K N:List Int):List Mb:= [((wA .u8 32 K),(27,(0,0))),((wA .u8 12 N),(28,(0,0))),((wA .u8 16 []),(22,(0,0))),((wA .u8 32 []),(27,(0,0)))]
def dKy0p_h (i:Nat):Hn:=⟨0,[],[],[],[]⟩
def dKy0p_b (K N:List Int) (j:Nat→Value):List Value:=([.agg (wA .u8 32 K),.agg (wA .u8 12 N),.pointer (some ⟨0,0,none⟩),.pointer (some ⟨1,0,none⟩),.pointer (some ⟨2,0,none⟩),.pointer (some ⟨3,0,none⟩)] ++ (JU 42))
theorem dKy0p_0 (K N:List Int) (j:Nat→Value):evC (yty.enm tabZ1 [mFirst] 0) dKy0p_h (cAt [0] (bdy Try.f15)) ⟨dKyA_s K N j,dKyA_m K N,True,[]⟩=some (.normal,⟨dKy0p_b K N j,[((wA .u8 32 K),(27,(0,0))),((wA .u8 12 N),(28,(0,0))),((wA .u8 16 []),(22,(0,0))),((wA .u8 32 []),(27,(0,0)))],True,[]⟩):=by kernel_rfl
theorem dKy0 (K N:List Int) (j:Nat→Value) (hK:By K) (hN:By N)  {c0:Prop} {ch0:List (Option Value)}:Runs Try.prog (cAt [0] (bdy Try.f15)) ⟨dKyA_s K N j,dKyA_m K N,c0,ch0⟩ (fun e s=>e= .normal∧∃(j:Nat→Value) (c:Prop) (ch:List (Option Value)),s=⟨dKyB_s K N j,dKyB_m K N,c,ch⟩) 0:=by
  refine(runs_ev mixed _ (dKy0p_0 K N j) trivial).mono ?_
  rintro e s ⟨rfl,hs⟩
  refine⟨rfl,fun q=>s.tm.getD q undef,s.c,s.ch,?_⟩
  subst hs
  kernel_rfl
abbrev dKyC_s (K N:List Int) (j:Nat→Value):List Value:=([j 0,j 1,.pointer (some ⟨0,0,none⟩),.pointer (some ⟨1,0,none⟩),.pointer (some ⟨2,0,none⟩),.pointer (some ⟨3,0,none⟩),.pointer (some ⟨4,0,none⟩)] ++ (J j 7 41))
abbrev dKyC_m (K N:List Int):List Mb:= [((wA .u8 32 K),(27,(0,0))),((wA .u8 12 N),(28,(0,0))),((wA .u8 16 []),(22,(0,0))),((wA .u8 32 []),(27,(0,0))),((wA .u8 256 sbT),(53,(0,0)))]
def dKy1p_h (i:Nat):Hn:=⟨0,[],[],[],[]⟩
def dKy1p_b (K N:List Int) (j:Nat→Value):List Value:=([j 0,j 1,.pointer (some ⟨0,0,none⟩),.pointer (some ⟨1,0,none⟩),.pointer (some ⟨2,0,none⟩),.pointer (some ⟨3,0,none⟩),.pointer (some ⟨4,0,none⟩)] ++ (J j 7 6 ++ ([.agg (wA .u8 256 sbT)] ++ (J j 14 34))))
theorem dKy1p_0 (K N:List Int) (j:Nat→Value):evC (yty.enm tabZ1 [mFirst] 0) dKy1p_h (cAt [1,0] (bdy Try.f15)) ⟨dKyB_s K N j,dKyB_m K N,True,[]⟩=some (.normal,⟨dKy1p_b K N j,[((wA .u8 32 K),(27,(0,0))),((wA .u8 12 N),(28,(0,0))),((wA .u8 16 []),(22,(0,0))),((wA .u8 32 []),(27,(0,0))),((wA .u8 256 sbT),(53,(0,0)))],((True∧True)∧((wA .u8 256 sbT).all (fun v=>v.oneCell')=true)),[]⟩):=by kernel_rfl
theorem dKy1 (K N:List Int) (j:Nat→Value) (hK:By K) (hN:By N)  {c0:Prop} {ch0:List (Option Value)}:Runs Try.prog (cAt [1,0] (bdy Try.f15)) ⟨dKyB_s K N j,dKyB_m K N,c0,ch0⟩ (fun e s=>e= .normal∧∃(j:Nat→Value) (c:Prop) (ch:List (Option Value)),s=⟨dKyC_s K N j,dKyC_m K N,c,ch⟩) 0:=by
  refine(runs_ev mixed _ (dKy1p_0 K N j) ⟨⟨trivial,trivial⟩,(wA_one _ _ _)⟩).mono ?_
  rintro e s ⟨rfl,hs⟩
  refine⟨rfl,fun q=>s.tm.getD q undef,s.c,s.ch,?_⟩
  subst hs
  kernel_rfl
abbrev dKyD_s (K N:List Int) (j:Nat→Value):List Value:=([j 0,j 1,.pointer (some ⟨0,0,none⟩),.pointer (some ⟨1,0,none⟩),.pointer (some ⟨2,0,none⟩),.pointer (some ⟨3,0,none⟩),.pointer (some ⟨4,0,none⟩),.slice none 0 0] ++ (J j 8 40))
abbrev dKyD_m (K N:List Int):List Mb:= [((wA .u8 32 K),(27,(0,0))),((wA .u8 12 N),(28,(0,0))),((wA .u8 16 []),(22,(0,0))),((wA .u8 32 []),(27,(0,0))),((wA .u8 256 sbT),(53,(0,0)))]
def dKy2p_h (i:Nat):Hn:=⟨0,[],[],[],[]⟩
def dKy2p_b (K N:List Int) (j:Nat→Value):List Value:=([j 0,j 1,.pointer (some ⟨0,0,none⟩),.pointer (some ⟨1,0,none⟩),.pointer (some ⟨2,0,none⟩),.pointer (some ⟨3,0,none⟩),.pointer (some ⟨4,0,none⟩),.slice none 0 0] ++ (J j 8 40))
theorem dKy2p_0 (K N:List Int) (j:Nat→Value):evC (yty.enm tabZ1 [mFirst] 0) dKy2p_h (cAt [1,1,0] (bdy Try.f15)) ⟨dKyC_s K N j,dKyC_m K N,True,[]⟩=some (.normal,⟨dKy2p_b K N j,[((wA .u8 32 K),(27,(0,0))),((wA .u8 12 N),(28,(0,0))),((wA .u8 16 []),(22,(0,0))),((wA .u8 32 []),(27,(0,0))),((wA .u8 256 sbT),(53,(0,0)))],(True∧True),[]⟩):=by kernel_rfl
theorem dKy2 (K N:List Int) (j:Nat→Value) (hK:By K) (hN:By N)  {c0:Prop} {ch0:List (Option Value)}:Runs Try.prog (cAt [1,1,0] (bdy Try.f15)) ⟨dKyC_s K N j,dKyC_m K N,c0,ch0⟩ (fun e s=>e= .normal∧∃(j:Nat→Value) (c:Prop) (ch:List (Option Value)),s=⟨dKyD_s K N j,dKyD_m K N,c,ch⟩) 0:=by
  refine(runs_ev mixed _ (dKy2p_0 K N j) ⟨trivial,trivial⟩).mono ?_
  rintro e s ⟨rfl,hs⟩
  refine⟨rfl,fun q=>s.tm.getD q undef,s.c,s.ch,?_⟩
  subst hs
  kernel_rfl
abbrev dKyE_s (K N:List Int) (j:Nat→Value):List Value:=([j 0,j 1,.pointer (some ⟨0,0,none⟩),.pointer (some ⟨1,0,none⟩),.pointer (some ⟨2,0,none⟩),.pointer (some ⟨3,0,none⟩),.pointer (some ⟨4,0,none⟩),.slice none 0 0,.int .i64 0] ++ (J j 9 39))
abbrev dKyE_m (K N:List Int):List Mb:= [((wA .u8 32 K),(27,(0,0))),((wA .u8 12 N),(28,(0,0))),((wA .u8 16 []),(22,(0,0))),((wA .u8 32 []),(27,(0,0))),((wA .u8 256 sbT),(53,(0,0)))]
def dKy3p_h (i:Nat):Hn:=⟨0,[],[],[],[]⟩
def dKy3p_b (K N:List Int) (j:Nat→Value):List Value:=([j 0,j 1,.pointer (some ⟨0,0,none⟩),.pointer (some ⟨1,0,none⟩),.pointer (some ⟨2,0,none⟩),.pointer (some ⟨3,0,none⟩),.pointer (some ⟨4,0,none⟩),.slice none 0 0,.int .i64 0] ++ (J j 9 39))
theorem dKy3p_0 (K N:List Int) (j:Nat→Value):evC (yty.enm tabZ1 [mFirst] 0) dKy3p_h (cAt [1,1,1,0,0] (bdy Try.f15)) ⟨dKyD_s K N j,dKyD_m K N,True,[]⟩=some (.normal,⟨dKy3p_b K N j,[((wA .u8 32 K),(27,(0,0))),((wA .u8 12 N),(28,(0,0))),((wA .u8 16 []),(22,(0,0))),((wA .u8 32 []),(27,(0,0))),((wA .u8 256 sbT),(53,(0,0)))],(True∧True),[]⟩):=by kernel_rfl
theorem dKy3 (K N:List Int) (j:Nat→Value) (hK:By K) (hN:By N)  {c0:Prop} {ch0:List (Option Value)}:Runs Try.prog (cAt [1,1,1,0,0] (bdy Try.f15)) ⟨dKyD_s K N j,dKyD_m K N,c0,ch0⟩ (fun e s=>e= .normal∧∃(j:Nat→Value) (c:Prop) (ch:List (Option Value)),s=⟨dKyE_s K N j,dKyE_m K N,c,ch⟩) 0:=by
  refine(runs_ev mixed _ (dKy3p_0 K N j) ⟨trivial,trivial⟩).mono ?_
  rintro e s ⟨rfl,hs⟩
  refine⟨rfl,fun q=>s.tm.getD q undef,s.c,s.ch,?_⟩
  subst hs
  kernel_rfl
abbrev dKyF_s (K N:List Int) (i m c4:Nat) (Y:List Int) (j:Nat→Value):List Value:=([j 0,j 1,.pointer (some ⟨0,0,none⟩),.pointer (some ⟨1,0,none⟩),.pointer (some ⟨2,0,none⟩),.pointer (some ⟨3,0,none⟩),.pointer (some ⟨4,0,none⟩),.slice (some ⟨5,0,none⟩) m c4,.int .i64 ((i:Nat):Int)] ++ (J j 9 39))
abbrev dKyF_m (K N:List Int) (i m c4:Nat) (Y:List Int):List Mb:= [((wA .u8 32 K),(27,(0,0))),((wA .u8 12 N),(28,(0,0))),((wA .u8 16 []),(22,(0,0))),((wA .u8 32 []),(27,(0,0))),((wA .u8 256 sbT),(53,(0,0))),((wA .u8 c4 Y),(5,(0,0)))]
abbrev dKyG_s (K N:List Int) (i m c4:Nat) (Y:List Int) (j:Nat→Value):List Value:=([j 0,j 1,.pointer (some ⟨0,0,none⟩),.pointer (some ⟨1,0,none⟩),.pointer (some ⟨2,0,none⟩),.pointer (some ⟨3,0,none⟩),.pointer (some ⟨4,0,none⟩),.slice (some ⟨5,0,none⟩) m c4,.int .i64 ((i:Nat):Int)] ++ (J j 9 39))
abbrev dKyG_m (K N:List Int) (i m c4:Nat) (Y:List Int):List Mb:= [((wA .u8 32 K),(27,(0,0))),((wA .u8 12 N),(28,(0,0))),((wA .u8 16 []),(22,(0,0))),((wA .u8 32 []),(27,(0,0))),((wA .u8 256 sbT),(53,(0,0))),((wA .u8 c4 Y),(5,(0,0)))]
def dKy4p_h (i:Nat):Hn:=⟨0,[],[],[],[]⟩
def dKy4p_b (K N:List Int) (j:Nat→Value):List Value:=([j 0,j 1,.pointer (some ⟨0,0,none⟩),.pointer (some ⟨1,0,none⟩),.pointer (some ⟨2,0,none⟩),.pointer (some ⟨3,0,none⟩),.pointer (some ⟨4,0,none⟩),.slice none 0 0,.int .i64 0] ++ (J j 9 5 ++ ([.int .i64 0,.bool true] ++ (J j 16 32))))
theorem dKy4p_0 (K N:List Int) (j:Nat→Value):evC (yty.enm tabZ1 [mFirst] 0) dKy4p_h (cAt [1,1,1,0,1,0,0,0] (bdy Try.f15)) ⟨dKyE_s K N j,dKyE_m K N,True,[some (.bool true)]⟩=some (.normal,⟨dKy4p_b K N j,[((wA .u8 32 K),(27,(0,0))),((wA .u8 12 N),(28,(0,0))),((wA .u8 16 []),(22,(0,0))),((wA .u8 32 []),(27,(0,0))),((wA .u8 256 sbT),(53,(0,0)))],((True∧True)∧(True∧true=true)),[]⟩):=by kernel_rfl
theorem dKy4 (K N:List Int) (j:Nat→Value) (hK:By K) (hN:By N)  {c0:Prop} {ch0:List (Option Value)}:Runs Try.prog (cAt [1,1,1,0,1,0,0,0] (bdy Try.f15)) ⟨dKyE_s K N j,dKyE_m K N,c0,ch0⟩ (fun e s=>e= .normal∧∃(j:Nat→Value) (c:Prop) (ch:List (Option Value)),s=⟨dKyE_s K N j,dKyE_m K N,c,ch⟩) 0:=by
  have h0:true=true:=rfl
  refine(runs_ev mixed _ (dKy4p_0 K N j) ⟨⟨trivial,trivial⟩,⟨trivial,h0⟩⟩).mono ?_
  rintro e s ⟨rfl,hs⟩
  refine⟨rfl,fun q=>s.tm.getD q undef,s.c,s.ch,?_⟩
  subst hs
  kernel_rfl
abbrev dKyH_s (K N:List Int) (i m c4:Nat) (Y:List Int) (j:Nat→Value):List Value:=([j 0,j 1,.pointer (some ⟨0,0,none⟩),.pointer (some ⟨1,0,none⟩),.pointer (some ⟨2,0,none⟩),.pointer (some ⟨3,0,none⟩),.pointer (some ⟨4,0,none⟩),.slice (some ⟨5,0,none⟩) m c4,.int .i64 ((i:Nat):Int)] ++ (J j 9 39))
abbrev dKyH_m (K N:List Int) (i m c4:Nat) (Y:List Int):List Mb:= [((wA .u8 32 K),(27,(0,0))),((wA .u8 12 N),(28,(0,0))),((wA .u8 16 []),(22,(0,0))),((wA .u8 32 []),(27,(0,0))),((wA .u8 256 sbT),(53,(0,0))),((wA .u8 c4 Y),(5,(0,0)))]
def dKy5p_h (i:Nat):Hn:=⟨0,[],[],[],[]⟩
def dKy5p_b (K N:List Int) (i m c4:Nat) (Y:List Int) (j:Nat→Value):List Value:=([j 0,j 1,.pointer (some ⟨0,0,none⟩),.pointer (some ⟨1,0,none⟩),.pointer (some ⟨2,0,none⟩),.pointer (some ⟨3,0,none⟩),.pointer (some ⟨4,0,none⟩),.slice (some ⟨5,0,none⟩) m c4,.int .i64 ((i:Nat):Int)] ++ (J j 9 5 ++ ([.int .i64 ((i:Nat):Int),.bool true] ++ (J j 16 32))))
theorem dKy5p_0 (K N:List Int) (i m c4:Nat) (Y:List Int) (j:Nat→Value):evC (yty.enm tabZ1 [mFirst] 0) dKy5p_h (cAt [1,1,1,0,1,0,0,0] (bdy Try.f15)) ⟨dKyF_s K N i m c4 Y j,dKyF_m K N i m c4 Y,True,[some (.bool true)]⟩=some (.normal,⟨dKy5p_b K N i m c4 Y j,[((wA .u8 32 K),(27,(0,0))),((wA .u8 12 N),(28,(0,0))),((wA .u8 16 []),(22,(0,0))),((wA .u8 32 []),(27,(0,0))),((wA .u8 256 sbT),(53,(0,0))),((wA .u8 c4 Y),(5,(0,0)))],((True∧True)∧(True∧(decide (((i:Nat):Int)<6))=true)),[]⟩):=by kernel_rfl
theorem dKy5 (K N:List Int) (i m c4:Nat) (Y:List Int) (j:Nat→Value) (hK:By K) (hN:By N) (hY:Y=kyL K N 0 i) (hm:m=8*i) (hc:m≤c4) (hi:i≤6) (hlt:i<6) {c0:Prop} {ch0:List (Option Value)}:Runs Try.prog (cAt [1,1,1,0,1,0,0,0] (bdy Try.f15)) ⟨dKyF_s K N i m c4 Y j,dKyF_m K N i m c4 Y,c0,ch0⟩ (fun e s=>e= .normal∧∃(j:Nat→Value) (c:Prop) (ch:List (Option Value)),(i<6)∧s=⟨dKyH_s K N i m c4 Y j,dKyH_m K N i m c4 Y,c,ch⟩) 0:=by
  have h0:(decide (((i:Nat):Int)<6))=true:=(decide_eq_true (by omega))
  refine(runs_ev mixed _ (dKy5p_0 K N i m c4 Y j) ⟨⟨trivial,trivial⟩,⟨trivial,h0⟩⟩).mono ?_
  rintro e s ⟨rfl,hs⟩
  refine⟨rfl,fun q=>s.tm.getD q undef,s.c,s.ch,hlt,?_⟩
  subst hs
  kernel_rfl
def dKy6p_m (K N:List Int) (j:Nat→Value):List Value:=([j 0,j 1,.pointer (some ⟨0,0,none⟩),.pointer (some ⟨1,0,none⟩),.pointer (some ⟨2,0,none⟩),.pointer (some ⟨3,0,none⟩),.pointer (some ⟨4,0,none⟩),.slice none 0 0,.int .i64 0] ++ (J j 9 9 ++ ([.slice none 0 0,.agg (wA .u8 32 K),.agg (wA .u8 12 N),.int .i64 0,.agg (wA .u8 256 sbT),.slice (some ⟨5,0,none⟩) 8 8] ++ (J j 24 24))))
def dKy6p_b (K N:List Int) (j:Nat→Value) (n1 k1:Nat):List Value:=([j 0,j 1,.pointer (some ⟨0,0,none⟩),.pointer (some ⟨1,0,none⟩),.pointer (some ⟨2,0,none⟩),.pointer (some ⟨3,0,none⟩),.pointer (some ⟨4,0,none⟩),.slice (some ⟨6,0,none⟩) n1 k1,.int .i64 0] ++ (J j 9 9 ++ ([.slice none 0 0,.agg (wA .u8 32 K),.agg (wA .u8 12 N),.int .i64 0,.agg (wA .u8 256 sbT),.slice (some ⟨5,0,none⟩) 8 8,.slice (some ⟨6,0,none⟩) n1 k1] ++ (J j 25 23))))
theorem dKy6p_1 (K N:List Int) (j:Nat→Value):evL (yty.enm tabZ1 [mFirst] 0) (oT (cAt [1,1,1,0,1,0,0,1,0,0] (bdy Try.f15))) ((oT (cAt [1,1,1,0,1,0,0,1,0,0] (bdy Try.f15))).toList.take 6) ⟨dKyE_s K N j,dKyE_m K N,True,[]⟩=some ⟨dKy6p_m K N j,[((wA .u8 32 K),(27,(0,0))),((wA .u8 12 N),(28,(0,0))),((wA .u8 16 []),(22,(0,0))),((wA .u8 32 []),(27,(0,0))),((wA .u8 256 sbT),(53,(0,0))),((wA .u8 8 (f8 (hfL (dL8 (wA .u8 32 K)) (dL8 (wA .u8 12 N)) 0))),(5,(0,0)))],((((((True∧True)∧True)∧True)∧True)∧True)∧((((wA .u8 32 K)=wA .u8 32 (dL8 (wA .u8 32 K))∧By (dL8 (wA .u8 32 K)))∧((wA .u8 12 N)=wA .u8 12 (dL8 (wA .u8 12 N))∧By (dL8 (wA .u8 12 N))))∧IntKind.i64=IntKind.i64∧(wA .u8 256 sbT)=wA .u8 256 sbT∧(0:Int)≤0∧(0:Int)<6)),[]⟩:=by kernel_rfl
theorem dKy6p_2 (K N:List Int) (j:Nat→Value) (n1 k1:Nat):evL (yty.enm tabZ1 [mFirst] 0) (oT (cAt [1,1,1,0,1,0,0,1,0,0] (bdy Try.f15))) ((oT (cAt [1,1,1,0,1,0,0,1,0,0] (bdy Try.f15))).toList.drop 7) ⟨putS (dKy6p_m K N j) (some 24) (.slice (some ⟨6,0,none⟩) n1 k1),[((wA .u8 32 K),(27,(0,0))),((wA .u8 12 N),(28,(0,0))),((wA .u8 16 []),(22,(0,0))),((wA .u8 32 []),(27,(0,0))),((wA .u8 256 sbT),(53,(0,0))),((wA .u8 8 (f8 (hfL (dL8 (wA .u8 32 K)) (dL8 (wA .u8 12 N)) 0))),(5,(0,0)))] ++ [(wA .u8 k1 (f8 (hfL (dL8 (wA .u8 32 K)) (dL8 (wA .u8 12 N)) 0)),5,(0,0))],True,[]⟩=some ⟨dKy6p_b K N j n1 k1,[((wA .u8 32 K),(27,(0,0))),((wA .u8 12 N),(28,(0,0))),((wA .u8 16 []),(22,(0,0))),((wA .u8 32 []),(27,(0,0))),((wA .u8 256 sbT),(53,(0,0))),((wA .u8 8 (f8 (hfL (dL8 (wA .u8 32 K)) (dL8 (wA .u8 12 N)) 0))),(5,(0,0))),((wA .u8 k1 (f8 (hfL (dL8 (wA .u8 32 K)) (dL8 (wA .u8 12 N)) 0))),(5,(0,0)))],(True∧True),[]⟩:=by kernel_rfl
theorem dKy6p_r (K N:List Int) (j:Nat→Value)  (hK:By K) (hN:By N) (q0:((((wA .u8 32 K)=wA .u8 32 (dL8 (wA .u8 32 K))∧By (dL8 (wA .u8 32 K)))∧((wA .u8 12 N)=wA .u8 12 (dL8 (wA .u8 12 N))∧By (dL8 (wA .u8 12 N))))∧IntKind.i64=IntKind.i64∧(wA .u8 256 sbT)=wA .u8 256 sbT∧(0:Int)≤0∧(0:Int)<6)) (hu:SrcOk .u8 [((wA .u8 32 K),(27,(0,0))),((wA .u8 12 N),(28,(0,0))),((wA .u8 16 []),(22,(0,0))),((wA .u8 32 []),(27,(0,0))),((wA .u8 256 sbT),(53,(0,0))),((wA .u8 8 (f8 (hfL (dL8 (wA .u8 32 K)) (dL8 (wA .u8 12 N)) 0))),(5,(0,0)))] (.slice (some ⟨5,0,none⟩) 8 8) (f8 (hfL (dL8 (wA .u8 32 K)) (dL8 (wA .u8 12 N)) 0))) (h0:0<((f8 (hfL (dL8 (wA .u8 32 K)) (dL8 (wA .u8 12 N)) 0))).length) (hb:((f8 (hfL (dL8 (wA .u8 32 K)) (dL8 (wA .u8 12 N)) 0))).length≤1099511627776) {c0:Prop} {ch0:List (Option Value)}:Runs Try.prog (cAt [1,1,1,0,1,0,0,1,0,0] (bdy Try.f15)) ⟨dKyE_s K N j,dKyE_m K N,c0,ch0⟩ (fun e s=>e= .normal∧∃ n1 k1 c ch,n1=((f8 (hfL (dL8 (wA .u8 32 K)) (dL8 (wA .u8 12 N)) 0))).length∧n1≤k1∧s=⟨dKy6p_b K N j n1 k1,[((wA .u8 32 K),(27,(0,0))),((wA .u8 12 N),(28,(0,0))),((wA .u8 16 []),(22,(0,0))),((wA .u8 32 []),(27,(0,0))),((wA .u8 256 sbT),(53,(0,0))),((wA .u8 8 (f8 (hfL (dL8 (wA .u8 32 K)) (dL8 (wA .u8 12 N)) 0))),(5,(0,0))),((wA .u8 k1 (f8 (hfL (dL8 (wA .u8 32 K)) (dL8 (wA .u8 12 N)) 0))),(5,(0,0)))],c,ch⟩) 0:=
  (runs_appN (E:=yty.enm tabZ1 [mFirst] 0) (c:=(cAt [1,1,1,0,1,0,0,1,0,0] (bdy Try.f15))) (x:=(.tmp 18)) (y:=(.tmp 23)) (d:=some 24) (by kernel_rfl) 6 (dKy6p_1 K N j) ⟨⟨⟨⟨⟨⟨trivial,trivial⟩,trivial⟩,trivial⟩,trivial⟩,trivial⟩,q0⟩ (by kernel_rfl) apY apY.ht rfl rfl (of_decide_eq_true (by kernel_rfl)) hu h0 (by omega) (by omega) _ (dKy6p_2 K N j) (fun n1 k1 e1 e2=>⟨trivial,trivial⟩)).mono (fun e s ⟨h1,n1,k1,h2,h3,h4⟩=>⟨h1,n1,k1,_,_,h2,h3,h4⟩)
theorem dKy6 (K N:List Int) (j:Nat→Value) (hK:By K) (hN:By N)  {c0:Prop} {ch0:List (Option Value)}:Runs Try.prog (cAt [1,1,1,0,1,0,0,1,0,0] (bdy Try.f15)) ⟨dKyE_s K N j,dKyE_m K N,c0,ch0⟩ (fun e s=>e= .normal∧∃(k1:Nat) (j:Nat→Value) (c:Prop) (ch:List (Option Value)),((f8 (hfL (dL8 (wA .u8 32 K)) (dL8 (wA .u8 12 N)) 0))=kyL K N 0 (0+1))∧(8=8*(0+1))∧(8≤k1)∧(0<6)∧s=⟨dKyG_s K N 0 8 k1 (f8 (hfL (dL8 (wA .u8 32 K)) (dL8 (wA .u8 12 N)) 0)) j,dKyG_m K N 0 8 k1 (f8 (hfL (dL8 (wA .u8 32 K)) (dL8 (wA .u8 12 N)) 0)),c,ch⟩) 0:=by
  refine Runs.over (dKy6p_r K N j hK hN  ⟨⟨dq hK,dq hN⟩,rfl,rfl,by omega,by omega⟩ (src_wA (i:=5) rfl (f8_len _).symm (by rw[f8_len];decide)) (by rw[f8_len];decide) (by rw[f8_len];decide)) (by decide) ?_
  rintro e s ⟨rfl,n1,k1,c,ch,hn1,hk1,hs⟩
  try simp only[List.length_append,List.length_cons,List.length_nil,List.length_singleton] at hn1
  refine⟨s.mem.take 6,s.mem.getD 6 default,5,by subst hs;rfl,by decide,by subst hs;simp,fun M2=>⟨rfl,k1,fun q=>(s.tm.map (ov 5 (s.mem.take 6).length M2)).getD q undef,c,ch,by rw[hfL_w];exact ky_app K N 0,rfl,by rw[f8_len] at hn1;omega,by decide,?_⟩⟩
  subst hs
  obtain rfl:n1=8:=by rw[hn1,f8_len]
  kernel_rfl
def dKy7p_m (K N:List Int) (i m c4:Nat) (Y:List Int) (j:Nat→Value):List Value:=([j 0,j 1,.pointer (some ⟨0,0,none⟩),.pointer (some ⟨1,0,none⟩),.pointer (some ⟨2,0,none⟩),.pointer (some ⟨3,0,none⟩),.pointer (some ⟨4,0,none⟩),.slice (some ⟨5,0,none⟩) m c4,.int .i64 ((i:Nat):Int)] ++ (J j 9 9 ++ ([.slice (some ⟨5,0,none⟩) m c4,.agg (wA .u8 32 K),.agg (wA .u8 12 N),.int .i64 ((i:Nat):Int),.agg (wA .u8 256 sbT),.slice (some ⟨6,0,none⟩) 8 8] ++ (J j 24 24))))
def dKy7p_b (K N:List Int) (i m c4:Nat) (Y:List Int) (j:Nat→Value) (n1 k1 M1:Nat):List Value:=([al 5 M1 (j 0),al 5 M1 (j 1),.pointer (some ⟨0,0,none⟩),.pointer (some ⟨1,0,none⟩),.pointer (some ⟨2,0,none⟩),.pointer (some ⟨3,0,none⟩),.pointer (some ⟨4,0,none⟩),.slice (some ⟨5,0,none⟩) n1 k1,.int .i64 ((i:Nat):Int)] ++ (JA j 5 M1 9 9 ++ ([.slice (some ⟨M1,0,none⟩) m c4,.agg (wA .u8 32 K),.agg (wA .u8 12 N),.int .i64 ((i:Nat):Int),.agg (wA .u8 256 sbT),.slice (some ⟨6,0,none⟩) 8 8,.slice (some ⟨5,0,none⟩) n1 k1] ++ (JA j 5 M1 25 23))))
theorem dKy7p_1 (K N:List Int) (i m c4:Nat) (Y:List Int) (j:Nat→Value):evL (yty.enm tabZ1 [mFirst] 0) (oT (cAt [1,1,1,0,1,0,0,1,0,0] (bdy Try.f15))) ((oT (cAt [1,1,1,0,1,0,0,1,0,0] (bdy Try.f15))).toList.take 6) ⟨dKyH_s K N i m c4 Y j,dKyH_m K N i m c4 Y,True,[]⟩=some ⟨dKy7p_m K N i m c4 Y j,[((wA .u8 32 K),(27,(0,0))),((wA .u8 12 N),(28,(0,0))),((wA .u8 16 []),(22,(0,0))),((wA .u8 32 []),(27,(0,0))),((wA .u8 256 sbT),(53,(0,0))),((wA .u8 c4 Y),(5,(0,0))),((wA .u8 8 (f8 (hfL (dL8 (wA .u8 32 K)) (dL8 (wA .u8 12 N)) ((i:Nat):Int)))),(5,(0,0)))],((((((True∧True)∧True)∧True)∧True)∧True)∧((((wA .u8 32 K)=wA .u8 32 (dL8 (wA .u8 32 K))∧By (dL8 (wA .u8 32 K)))∧((wA .u8 12 N)=wA .u8 12 (dL8 (wA .u8 12 N))∧By (dL8 (wA .u8 12 N))))∧IntKind.i64=IntKind.i64∧(wA .u8 256 sbT)=wA .u8 256 sbT∧(0:Int)≤((i:Nat):Int)∧(((i:Nat):Int):Int)<6)),[]⟩:=by kernel_rfl
theorem dKy7p_2 (K N:List Int) (i m c4:Nat) (Y:List Int) (j:Nat→Value) (n1 k1 M1:Nat):evL (yty.enm tabZ1 [mFirst] 0) (oT (cAt [1,1,1,0,1,0,0,1,0,0] (bdy Try.f15))) ((oT (cAt [1,1,1,0,1,0,0,1,0,0] (bdy Try.f15))).toList.drop 7) ⟨putS ((dKy7p_m K N i m c4 Y j).map (al 5 M1)) (some 24) (.slice (some ⟨5,0,none⟩) n1 k1),[((wA .u8 32 K),(27,(0,0))),((wA .u8 12 N),(28,(0,0))),((wA .u8 16 []),(22,(0,0))),((wA .u8 32 []),(27,(0,0))),((wA .u8 256 sbT),(53,(0,0))),((wA .u8 c4 Y),(5,(0,0))),((wA .u8 8 (f8 (hfL (dL8 (wA .u8 32 K)) (dL8 (wA .u8 12 N)) ((i:Nat):Int)))),(5,(0,0)))].set 5 (wA .u8 k1 (Y ++ (f8 (hfL (dL8 (wA .u8 32 K)) (dL8 (wA .u8 12 N)) ((i:Nat):Int)))),5,(0,0)),True,[]⟩=some ⟨dKy7p_b K N i m c4 Y j n1 k1 M1,[((wA .u8 32 K),(27,(0,0))),((wA .u8 12 N),(28,(0,0))),((wA .u8 16 []),(22,(0,0))),((wA .u8 32 []),(27,(0,0))),((wA .u8 256 sbT),(53,(0,0))),((wA .u8 k1 (Y ++ (f8 (hfL (dL8 (wA .u8 32 K)) (dL8 (wA .u8 12 N)) ((i:Nat):Int))))),(5,(0,0))),((wA .u8 8 (f8 (hfL (dL8 (wA .u8 32 K)) (dL8 (wA .u8 12 N)) ((i:Nat):Int)))),(5,(0,0)))],(True∧True),[]⟩:=by kernel_rfl
theorem dKy7p_r (K N:List Int) (i m c4:Nat) (Y:List Int) (j:Nat→Value)  (hK:By K) (hN:By N) (hY:Y=kyL K N 0 i) (hm:m=8*i) (hc:m≤c4) (hi:i<6) (q0:((((wA .u8 32 K)=wA .u8 32 (dL8 (wA .u8 32 K))∧By (dL8 (wA .u8 32 K)))∧((wA .u8 12 N)=wA .u8 12 (dL8 (wA .u8 12 N))∧By (dL8 (wA .u8 12 N))))∧IntKind.i64=IntKind.i64∧(wA .u8 256 sbT)=wA .u8 256 sbT∧(0:Int)≤((i:Nat):Int)∧(((i:Nat):Int):Int)<6)) (hu:SrcOk .u8 [((wA .u8 32 K),(27,(0,0))),((wA .u8 12 N),(28,(0,0))),((wA .u8 16 []),(22,(0,0))),((wA .u8 32 []),(27,(0,0))),((wA .u8 256 sbT),(53,(0,0))),((wA .u8 c4 Y),(5,(0,0))),((wA .u8 8 (f8 (hfL (dL8 (wA .u8 32 K)) (dL8 (wA .u8 12 N)) ((i:Nat):Int)))),(5,(0,0)))] (.slice (some ⟨6,0,none⟩) 8 8) (f8 (hfL (dL8 (wA .u8 32 K)) (dL8 (wA .u8 12 N)) ((i:Nat):Int)))) (hn:m=(Y).length) (hL:(Y).length≤c4) (hb:(Y).length+((f8 (hfL (dL8 (wA .u8 32 K)) (dL8 (wA .u8 12 N)) ((i:Nat):Int)))).length≤1099511627776) {c0:Prop} {ch0:List (Option Value)}:Runs Try.prog (cAt [1,1,1,0,1,0,0,1,0,0] (bdy Try.f15)) ⟨dKyH_s K N i m c4 Y j,dKyH_m K N i m c4 Y,c0,ch0⟩ (fun e s=>e= .normal∧∃ n1 k1 M1 c ch,n1=(Y).length+((f8 (hfL (dL8 (wA .u8 32 K)) (dL8 (wA .u8 12 N)) ((i:Nat):Int)))).length∧n1≤k1∧s=⟨dKy7p_b K N i m c4 Y j n1 k1 M1,[((wA .u8 32 K),(27,(0,0))),((wA .u8 12 N),(28,(0,0))),((wA .u8 16 []),(22,(0,0))),((wA .u8 32 []),(27,(0,0))),((wA .u8 256 sbT),(53,(0,0))),((wA .u8 k1 (Y ++ (f8 (hfL (dL8 (wA .u8 32 K)) (dL8 (wA .u8 12 N)) ((i:Nat):Int))))),(5,(0,0))),((wA .u8 8 (f8 (hfL (dL8 (wA .u8 32 K)) (dL8 (wA .u8 12 N)) ((i:Nat):Int)))),(5,(0,0)))],c,ch⟩) 0:=
  (runs_app (E:=yty.enm tabZ1 [mFirst] 0) (c:=(cAt [1,1,1,0,1,0,0,1,0,0] (bdy Try.f15))) (x:=(.tmp 18)) (y:=(.tmp 23)) (d:=some 24) (by kernel_rfl) 6 (dKy7p_1 K N i m c4 Y j) ⟨⟨⟨⟨⟨⟨trivial,trivial⟩,trivial⟩,trivial⟩,trivial⟩,trivial⟩,q0⟩ (by kernel_rfl) apY apY.ht (by decide) (by decide) rfl hn rfl hL hu (by omega) (by omega) _ (dKy7p_2 K N i m c4 Y j) (fun n1 k1 M1 e1 e2=>⟨trivial,trivial⟩)).mono (fun e s ⟨h1,n1,k1,M1,h2,h3,h4⟩=>⟨h1,n1,k1,M1,_,_,h2,h3,h4⟩)
theorem dKy7 (K N:List Int) (i m c4:Nat) (Y:List Int) (j:Nat→Value) (hK:By K) (hN:By N) (hY:Y=kyL K N 0 i) (hm:m=8*i) (hc:m≤c4) (hi:i<6)  {c0:Prop} {ch0:List (Option Value)}:Runs Try.prog (cAt [1,1,1,0,1,0,0,1,0,0] (bdy Try.f15)) ⟨dKyH_s K N i m c4 Y j,dKyH_m K N i m c4 Y,c0,ch0⟩ (fun e s=>e= .normal∧∃(k1:Nat) (j:Nat→Value) (c:Prop) (ch:List (Option Value)),((Y ++ (f8 (hfL (dL8 (wA .u8 32 K)) (dL8 (wA .u8 12 N)) ((i:Nat):Int))))=kyL K N 0 (i+1))∧((m+8)=8*(i+1))∧((m+8)≤k1)∧s=⟨dKyG_s K N i (m+8) k1 (Y ++ (f8 (hfL (dL8 (wA .u8 32 K)) (dL8 (wA .u8 12 N)) ((i:Nat):Int)))) j,dKyG_m K N i (m+8) k1 (Y ++ (f8 (hfL (dL8 (wA .u8 32 K)) (dL8 (wA .u8 12 N)) ((i:Nat):Int)))),c,ch⟩) 0:=by
  refine Runs.dropG (dKy7p_r K N i m c4 Y j hK hN hY hm hc hi  ⟨⟨dq hK,dq hN⟩,rfl,rfl,by omega,by omega⟩ (src_wA (i:=6) rfl (f8_len _).symm (by rw[f8_len];decide)) (by rw[hY,ky_len];exact hm) (by rw[hY,ky_len];omega) (by rw[hY,ky_len,f8_len];omega)) ?_
  rintro e s ⟨rfl,n1,k1,M1,c,ch,hn1,hk1,hs⟩
  try simp only[List.length_append,List.length_cons,List.length_nil,List.length_singleton] at hn1
  refine⟨s.mem.take 6,s.mem.drop 6,(List.take_append_drop 6 _).symm,by subst hs;simp[big],fun M2=>⟨rfl,k1,fun q=>(s.tm.map (dn (s.mem.take 6).length M2)).getD q undef,c,ch,by rw[hfL_w,hY];exact ky_app K N i,by omega,by rw[f8_len,hY,ky_len] at hn1;omega,?_⟩⟩
  subst hs
  obtain rfl:n1=m+8:=by rw[hn1,hY,ky_len,f8_len];omega
  kernel_rfl
def dKy8p_h (i:Nat):Hn:=⟨0,[],[],[],[]⟩
def dKy8p_b (K N:List Int) (i m c4:Nat) (Y:List Int) (j:Nat→Value):List Value:=([j 0,j 1,.pointer (some ⟨0,0,none⟩),.pointer (some ⟨1,0,none⟩),.pointer (some ⟨2,0,none⟩),.pointer (some ⟨3,0,none⟩),.pointer (some ⟨4,0,none⟩),.slice (some ⟨5,0,none⟩) m c4,.int .i64 ((i+1:Nat):Int)] ++ (J j 9 7 ++ ([.int .i64 ((i:Nat):Int),.int .i64 ((i+1:Nat):Int)] ++ (J j 18 30))))
theorem dKy8p_0 (K N:List Int) (i m c4:Nat) (Y:List Int) (j:Nat→Value):evC (yty.enm tabZ1 [mFirst] 0) dKy8p_h (cAt [1,1,1,0,1,0,0,1,1] (bdy Try.f15)) ⟨dKyG_s K N i m c4 Y j,dKyG_m K N i m c4 Y,True,[some (.int .i64 ((i+1:Nat):Int))]⟩=some (.normal,⟨dKy8p_b K N i m c4 Y j,[((wA .u8 32 K),(27,(0,0))),((wA .u8 12 N),(28,(0,0))),((wA .u8 16 []),(22,(0,0))),((wA .u8 32 []),(27,(0,0))),((wA .u8 256 sbT),(53,(0,0))),((wA .u8 c4 Y),(5,(0,0)))],(((True∧True)∧(True∧(IntKind.i64.wrap (((i:Nat):Int)+1))=((i+1:Nat):Int)))∧True),[]⟩):=by kernel_rfl
theorem dKy8 (K N:List Int) (i m c4:Nat) (Y:List Int) (j:Nat→Value) (hK:By K) (hN:By N) (hY:Y=kyL K N 0 (i+1)) (hm:m=8*(i+1)) (hc:m≤c4) (hi:i<6)  {c0:Prop} {ch0:List (Option Value)}:Runs Try.prog (cAt [1,1,1,0,1,0,0,1,1] (bdy Try.f15)) ⟨dKyG_s K N i m c4 Y j,dKyG_m K N i m c4 Y,c0,ch0⟩ (fun e s=>e= .normal∧∃(j:Nat→Value) (c:Prop) (ch:List (Option Value)),(Y=kyL K N 0 (i+1))∧(m=8*(i+1))∧((i+1)≤6)∧s=⟨dKyF_s K N (i+1) m c4 Y j,dKyF_m K N (i+1) m c4 Y,c,ch⟩) 0:=by
  refine(runs_ev mixed _ (dKy8p_0 K N i m c4 Y j) ⟨⟨⟨trivial,trivial⟩,⟨trivial,(by rw[IntKind.wrap_i64];omega)⟩⟩,trivial⟩).mono ?_
  rintro e s ⟨rfl,hs⟩
  refine⟨rfl,fun q=>s.tm.getD q undef,s.c,s.ch,hY,hm,by omega,?_⟩
  subst hs
  kernel_rfl
abbrev dKyI_s (K N:List Int) (m c4:Nat) (j:Nat→Value):List Value:=([j 0,j 1,.pointer (some ⟨0,0,none⟩),.pointer (some ⟨1,0,none⟩),.pointer (some ⟨2,0,none⟩),.pointer (some ⟨3,0,none⟩),j 6,.slice (some ⟨5,0,none⟩) m c4] ++ (J j 8 40))
abbrev dKyI_m (K N:List Int) (m c4:Nat):List Mb:= [((wA .u8 32 K),(27,(0,0))),((wA .u8 12 N),(28,(0,0))),((wA .u8 16 []),(22,(0,0))),((wA .u8 32 []),(27,(0,0))),((wA .u8 256 sbT),(53,(0,0))),((wA .u8 c4 (kyL K N 0 6)),(5,(0,0)))]
def dKy9p_h (i:Nat):Hn:=⟨0,[],[],[],[]⟩
def dKy9p_b (K N:List Int) (i m c4:Nat) (Y:List Int) (j:Nat→Value):List Value:=([j 0,j 1,.pointer (some ⟨0,0,none⟩),.pointer (some ⟨1,0,none⟩),.pointer (some ⟨2,0,none⟩),.pointer (some ⟨3,0,none⟩),.pointer (some ⟨4,0,none⟩),.slice (some ⟨5,0,none⟩) m c4,.int .i64 ((i:Nat):Int)] ++ (J j 9 5 ++ ([.int .i64 ((i:Nat):Int),.bool false] ++ (J j 16 32))))
theorem dKy9p_0 (K N:List Int) (i m c4:Nat) (Y:List Int) (j:Nat→Value):evC (yty.enm tabZ1 [mFirst] 0) dKy9p_h (cAt [1,1,1,0,1,0,0,0] (bdy Try.f15)) ⟨dKyF_s K N i m c4 Y j,dKyF_m K N i m c4 Y,True,[some (.bool false)]⟩=some ((.exit 0),⟨dKy9p_b K N i m c4 Y j,[((wA .u8 32 K),(27,(0,0))),((wA .u8 12 N),(28,(0,0))),((wA .u8 16 []),(22,(0,0))),((wA .u8 32 []),(27,(0,0))),((wA .u8 256 sbT),(53,(0,0))),((wA .u8 c4 Y),(5,(0,0)))],((True∧True)∧(True∧(decide (((i:Nat):Int)<6))=false)),[]⟩):=by kernel_rfl
theorem dKy9 (K N:List Int) (i m c4:Nat) (Y:List Int) (j:Nat→Value) (hK:By K) (hN:By N) (hY:Y=kyL K N 0 i) (hm:m=8*i) (hc:m≤c4) (hi:i≤6) (hge:¬ i<6) {c0:Prop} {ch0:List (Option Value)}:Runs Try.prog (cAt [1,1,1,0,1,0,0,0] (bdy Try.f15)) ⟨dKyF_s K N i m c4 Y j,dKyF_m K N i m c4 Y,c0,ch0⟩ (fun e s=>e=(.exit 0)∧∃(j:Nat→Value) (c:Prop) (ch:List (Option Value)),(m=48)∧s=⟨dKyI_s K N m c4 j,dKyI_m K N m c4,c,ch⟩) 0:=by
  have h0:(decide (((i:Nat):Int)<6))=false:=(decide_eq_false (by omega))
  refine(runs_ev mixed _ (dKy9p_0 K N i m c4 Y j) ⟨⟨trivial,trivial⟩,⟨trivial,h0⟩⟩).mono ?_
  rintro e s ⟨rfl,hs⟩
  refine⟨rfl,fun q=>s.tm.getD q undef,s.c,s.ch,by omega,?_⟩
  subst hs
  rw[hY,show i=6 by omega]
  kernel_rfl
theorem dKy0a (K N:List Int) (j:Nat→Value) (hK:By K) (hN:By N)  {c0:Prop} {ch0:List (Option Value)}:Runs Try.prog (cAt [1,1,1,0,1,0,0,1,0] (bdy Try.f15)) ⟨dKyE_s K N j,dKyE_m K N,c0,ch0⟩ (fun e s=>e= .normal∧∃(k1:Nat) (j:Nat→Value) (c:Prop) (ch:List (Option Value)),((f8 (hfL (dL8 (wA .u8 32 K)) (dL8 (wA .u8 12 N)) 0))=kyL K N 0 (0+1))∧(8=8*(0+1))∧(8≤k1)∧(0<6)∧s=⟨dKyG_s K N 0 8 k1 (f8 (hfL (dL8 (wA .u8 32 K)) (dL8 (wA .u8 12 N)) 0)) j,dKyG_m K N 0 8 k1 (f8 (hfL (dL8 (wA .u8 32 K)) (dL8 (wA .u8 12 N)) 0)),c,ch⟩) 0:=by
  rw[show(cAt [1,1,1,0,1,0,0,1,0] (bdy Try.f15))= .block 1 (cAt [1,1,1,0,1,0,0,1,0,0] (bdy Try.f15)) from by kernel_rfl]
  refine runs_block (dKy6 K N j hK hN ) ?_
  rintro e s ⟨rfl,hh⟩
  exact .inr (.inl ⟨rfl,rfl,hh⟩)
theorem dKy0b (K N:List Int) (i m c4:Nat) (Y:List Int) (j:Nat→Value) (hK:By K) (hN:By N) (hY:Y=kyL K N 0 i) (hm:m=8*i) (hc:m≤c4) (hi:i<6)  {c0:Prop} {ch0:List (Option Value)}:Runs Try.prog (cAt [1,1,1,0,1,0,0,1,0] (bdy Try.f15)) ⟨dKyH_s K N i m c4 Y j,dKyH_m K N i m c4 Y,c0,ch0⟩ (fun e s=>e= .normal∧∃(k1:Nat) (j:Nat→Value) (c:Prop) (ch:List (Option Value)),((Y ++ (f8 (hfL (dL8 (wA .u8 32 K)) (dL8 (wA .u8 12 N)) ((i:Nat):Int))))=kyL K N 0 (i+1))∧((m+8)=8*(i+1))∧((m+8)≤k1)∧s=⟨dKyG_s K N i (m+8) k1 (Y ++ (f8 (hfL (dL8 (wA .u8 32 K)) (dL8 (wA .u8 12 N)) ((i:Nat):Int)))) j,dKyG_m K N i (m+8) k1 (Y ++ (f8 (hfL (dL8 (wA .u8 32 K)) (dL8 (wA .u8 12 N)) ((i:Nat):Int)))),c,ch⟩) 0:=by
  rw[show(cAt [1,1,1,0,1,0,0,1,0] (bdy Try.f15))= .block 1 (cAt [1,1,1,0,1,0,0,1,0,0] (bdy Try.f15)) from by kernel_rfl]
  refine runs_block (dKy7 K N i m c4 Y j hK hN hY hm hc hi ) ?_
  rintro e s ⟨rfl,hh⟩
  exact .inr (.inl ⟨rfl,rfl,hh⟩)
theorem dKy0c (K N:List Int) (j:Nat→Value) (hK:By K) (hN:By N)  {c0:Prop} {ch0:List (Option Value)}:Runs Try.prog (cAt [1,1,1,0,1,0,0] (bdy Try.f15)) ⟨dKyE_s K N j,dKyE_m K N,c0,ch0⟩ (fun e s=>e= .normal∧∃(k11:Nat) (j:Nat→Value) (c:Prop) (ch:List (Option Value)),((f8 (hfL (dL8 (wA .u8 32 K)) (dL8 (wA .u8 12 N)) 0))=kyL K N 0 (0+1))∧(8=8*(0+1))∧(8≤k11)∧((0+1)≤6)∧s=⟨dKyF_s K N (0+1) 8 k11 (f8 (hfL (dL8 (wA .u8 32 K)) (dL8 (wA .u8 12 N)) 0)) j,dKyF_m K N (0+1) 8 k11 (f8 (hfL (dL8 (wA .u8 32 K)) (dL8 (wA .u8 12 N)) 0)),c,ch⟩) 0:=by
  rw[show(cAt [1,1,1,0,1,0,0] (bdy Try.f15))=(.seq (cAt [1,1,1,0,1,0,0,0] (bdy Try.f15)) (.seq (cAt [1,1,1,0,1,0,0,1,0] (bdy Try.f15)) (cAt [1,1,1,0,1,0,0,1,1] (bdy Try.f15)))) from by kernel_rfl]
  refine runs_seq (dKy4 K N j hK hN ) (fun s hh=> ?_) (fun e s hne hh=>absurd hh.1 hne)
  obtain⟨_,j,c,ch,rfl⟩:=hh
  refine runs_seq (dKy0a K N j hK hN ) (fun s hh=> ?_) (fun e s hne hh=>absurd hh.1 hne)
  obtain⟨_,k11,j,c,ch,f1_2,f1_3,f1_4,f1_5,rfl⟩:=hh
  refine(dKy8 K N 0 8 k11 (f8 (hfL (dL8 (wA .u8 32 K)) (dL8 (wA .u8 12 N)) 0)) j hK hN f1_2 f1_3 f1_4 f1_5 ).mono ?_
  rintro e s ⟨rfl,j,c,ch,f2_2,f2_3,f2_5,rfl⟩
  exact⟨rfl,k11,j,c,ch,f2_2,f2_3,f1_4,f2_5,rfl⟩
theorem dKy0d (K N:List Int) (i m c4:Nat) (Y:List Int) (j:Nat→Value) (hK:By K) (hN:By N) (hY:Y=kyL K N 0 i) (hm:m=8*i) (hc:m≤c4) (hi:i≤6) (hlt:i<6) {c0:Prop} {ch0:List (Option Value)}:Runs Try.prog (cAt [1,1,1,0,1,0,0] (bdy Try.f15)) ⟨dKyF_s K N i m c4 Y j,dKyF_m K N i m c4 Y,c0,ch0⟩ (fun e s=>e= .normal∧∃(k11:Nat) (j:Nat→Value) (c:Prop) (ch:List (Option Value)),((Y ++ (f8 (hfL (dL8 (wA .u8 32 K)) (dL8 (wA .u8 12 N)) ((i:Nat):Int))))=kyL K N 0 (i+1))∧((m+8)=8*(i+1))∧((m+8)≤k11)∧((i+1)≤6)∧s=⟨dKyF_s K N (i+1) (m+8) k11 (Y ++ (f8 (hfL (dL8 (wA .u8 32 K)) (dL8 (wA .u8 12 N)) ((i:Nat):Int)))) j,dKyF_m K N (i+1) (m+8) k11 (Y ++ (f8 (hfL (dL8 (wA .u8 32 K)) (dL8 (wA .u8 12 N)) ((i:Nat):Int)))),c,ch⟩) 0:=by
  rw[show(cAt [1,1,1,0,1,0,0] (bdy Try.f15))=(.seq (cAt [1,1,1,0,1,0,0,0] (bdy Try.f15)) (.seq (cAt [1,1,1,0,1,0,0,1,0] (bdy Try.f15)) (cAt [1,1,1,0,1,0,0,1,1] (bdy Try.f15)))) from by kernel_rfl]
  refine runs_seq (dKy5 K N i m c4 Y j hK hN hY hm hc hi hlt) (fun s hh=> ?_) (fun e s hne hh=>absurd hh.1 hne)
  obtain⟨_,j,c,ch,f0_5,rfl⟩:=hh
  refine runs_seq (dKy0b K N i m c4 Y j hK hN hY hm hc f0_5 ) (fun s hh=> ?_) (fun e s hne hh=>absurd hh.1 hne)
  obtain⟨_,k11,j,c,ch,f1_2,f1_3,f1_4,rfl⟩:=hh
  refine(dKy8 K N i (m+8) k11 (Y ++ (f8 (hfL (dL8 (wA .u8 32 K)) (dL8 (wA .u8 12 N)) ((i:Nat):Int)))) j hK hN f1_2 f1_3 f1_4 f0_5 ).mono ?_
  rintro e s ⟨rfl,j,c,ch,f2_2,f2_3,f2_5,rfl⟩
  exact⟨rfl,k11,j,c,ch,f2_2,f2_3,f1_4,f2_5,rfl⟩
theorem dKy0eL (K N:List Int) (j:Nat→Value) (hK:By K) (hN:By N)  {c0:Prop} {ch0:List (Option Value)}:Runs Try.prog (.loop (cAt [1,1,1,0,1,0,0] (bdy Try.f15))) ⟨dKyE_s K N j,dKyE_m K N,c0,ch0⟩ (fun e s=>e= .exit 0∧∃(i:Nat) (m:Nat) (c4:Nat) (Y:List Int) (j:Nat→Value) (c:Prop) (ch:List (Option Value)),(m=48)∧(m≤c4)∧s=⟨dKyI_s K N m c4 j,dKyI_m K N m c4,c,ch⟩) 0:=by
  refine runs_loop (fun M s=>(M=6 - 0∧∃(j:Nat→Value) (c:Prop) (ch:List (Option Value)),s=⟨dKyE_s K N j,dKyE_m K N,c,ch⟩)∨(∃(i:Nat) (m:Nat) (c4:Nat) (Y:List Int) (j:Nat→Value) (c:Prop) (ch:List (Option Value)),(Y=kyL K N 0 i)∧(m=8*i)∧(m≤c4)∧(i≤6)∧M=6 - i∧s=⟨dKyF_s K N i m c4 Y j,dKyF_m K N i m c4 Y,c,ch⟩)) (6 - 0) (.inl ⟨rfl,j,c0,ch0,rfl⟩) ?_
  rintro M s (⟨hM0,j,c,ch,rfl⟩|⟨i,m,c4,Y,j,c,ch,hY,hm,hc,hi,rfl,rfl⟩)
  · have hlt : 0 < 6 := by omega
    refine(dKy0c K N j hK hN ).mono ?_
    rintro e s ⟨rfl,k11_,j,c,ch,f2,f3,f4,f5,rfl⟩
    exact .inl ⟨rfl,6 - (0+1),by omega,.inr ⟨(0+1),8,k11_,(f8 (hfL (dL8 (wA .u8 32 K)) (dL8 (wA .u8 12 N)) 0)),j,c,ch,f2,f3,f4,f5,rfl,rfl⟩⟩
  · by_cases hlt : i < 6
    · skip
      refine(dKy0d K N i m c4 Y j hK hN hY hm hc hi hlt).mono ?_
      rintro e s ⟨rfl,k11_,j,c,ch,f2,f3,f4,f5,rfl⟩
      exact .inl ⟨rfl,6 - (i+1),by omega,.inr ⟨(i+1),(m+8),k11_,(Y ++ (f8 (hfL (dL8 (wA .u8 32 K)) (dL8 (wA .u8 12 N)) ((i:Nat):Int)))),j,c,ch,f2,f3,f4,f5,rfl,rfl⟩⟩
    · rw [show (cAt [1, 1, 1, 0, 1, 0, 0] (bdy Try.f15)) = .seq (cAt [1, 1, 1, 0, 1, 0, 0, 0] (bdy Try.f15)) (cAt [1, 1, 1, 0, 1, 0, 0, 1] (bdy Try.f15)) from by kernel_rfl]
      refine runs_seq (dKy9 K N i m c4 Y j hK hN hY hm hc hi hlt) (fun s hh=>absurd hh.1 (by simp)) (fun e s hne hh=> ?_)
      obtain⟨rfl,j,c,ch,f2,rfl⟩:=hh
      exact .inr ⟨by simp,rfl,i,m,c4,Y,j,c,ch,f2,hc,rfl⟩
theorem dKy0e (K N:List Int) (j:Nat→Value) (hK:By K) (hN:By N)  {c0:Prop} {ch0:List (Option Value)}:Runs Try.prog (cAt [1,1,1,0,1] (bdy Try.f15)) ⟨dKyE_s K N j,dKyE_m K N,c0,ch0⟩ (fun e s=>e= .normal∧∃(i:Nat) (m:Nat) (c4:Nat) (Y:List Int) (j:Nat→Value) (c:Prop) (ch:List (Option Value)),(m=48)∧(m≤c4)∧s=⟨dKyI_s K N m c4 j,dKyI_m K N m c4,c,ch⟩) 0:=by
  rw[show(cAt [1,1,1,0,1] (bdy Try.f15))= .block 0 (.loop (cAt [1,1,1,0,1,0,0] (bdy Try.f15))) from by kernel_rfl]
  refine runs_block (dKy0eL K N j hK hN ) ?_
  rintro e s ⟨rfl,hh⟩
  exact .inl ⟨rfl,rfl,hh⟩
theorem dKy0f (K N:List Int) (j:Nat→Value) (hK:By K) (hN:By N)  {c0:Prop} {ch0:List (Option Value)}:Runs Try.prog (cAt [1,1,1,0] (bdy Try.f15)) ⟨dKyD_s K N j,dKyD_m K N,c0,ch0⟩ (fun e s=>e= .normal∧∃(i1:Nat) (m1:Nat) (c41:Nat) (Y1:List Int) (j:Nat→Value) (c:Prop) (ch:List (Option Value)),(m1=48)∧(m1≤c41)∧s=⟨dKyI_s K N m1 c41 j,dKyI_m K N m1 c41,c,ch⟩) 0:=by
  rw[show(cAt [1,1,1,0] (bdy Try.f15))=(.seq (cAt [1,1,1,0,0] (bdy Try.f15)) (cAt [1,1,1,0,1] (bdy Try.f15))) from by kernel_rfl]
  refine runs_seq (dKy3 K N j hK hN ) (fun s hh=> ?_) (fun e s hne hh=>absurd hh.1 hne)
  obtain⟨_,j,c,ch,rfl⟩:=hh
  refine(dKy0e K N j hK hN ).mono ?_
  rintro e s ⟨rfl,i1,m1,c41,Y1,j,c,ch,f1_2,f1_3,rfl⟩
  exact⟨rfl,i1,m1,c41,Y1,j,c,ch,f1_2,f1_3,rfl⟩
abbrev dKyJ_s (K N:List Int) (m c4:Nat) (j:Nat→Value):List Value:=([j 0,j 1,.pointer (some ⟨0,0,none⟩),.pointer (some ⟨1,0,none⟩),.pointer (some ⟨2,0,none⟩),.pointer (some ⟨3,0,none⟩),j 6,.slice (some ⟨5,0,none⟩) m c4,j 8,.pointer (some ⟨6,0,none⟩)] ++ (J j 10 38))
abbrev dKyJ_m (K N:List Int) (m c4:Nat):List Mb:= [((wA .u8 32 K),(27,(0,0))),((wA .u8 12 N),(28,(0,0))),((wA .u8 16 []),(22,(0,0))),((wA .u8 32 []),(27,(0,0))),((wA .u8 256 sbT),(53,(0,0))),((wA .u8 c4 (kyL K N 0 6)),(5,(0,0))),((wA .u8 16 []),(22,(0,0)))]
def dKy0gp_h (i:Nat):Hn:=⟨0,[],[],[],[]⟩
def dKy0gp_b (K N:List Int) (m c4:Nat) (j:Nat→Value):List Value:=([j 0,j 1,.pointer (some ⟨0,0,none⟩),.pointer (some ⟨1,0,none⟩),.pointer (some ⟨2,0,none⟩),.pointer (some ⟨3,0,none⟩),j 6,.slice (some ⟨5,0,none⟩) m c4,j 8,.pointer (some ⟨6,0,none⟩)] ++ (J j 10 38))
theorem dKy0gp_0 (K N:List Int) (m c4:Nat) (j:Nat→Value):evC (yty.enm tabZ1 [mFirst] 0) dKy0gp_h (cAt [1,1,1,1,0] (bdy Try.f15)) ⟨dKyI_s K N m c4 j,dKyI_m K N m c4,True,[]⟩=some (.normal,⟨dKy0gp_b K N m c4 j,[((wA .u8 32 K),(27,(0,0))),((wA .u8 12 N),(28,(0,0))),((wA .u8 16 []),(22,(0,0))),((wA .u8 32 []),(27,(0,0))),((wA .u8 256 sbT),(53,(0,0))),((wA .u8 c4 (kyL K N 0 6)),(5,(0,0))),((wA .u8 16 []),(22,(0,0)))],True,[]⟩):=by kernel_rfl
theorem dKy0g (K N:List Int) (m c4:Nat) (j:Nat→Value) (hK:By K) (hN:By N) (hm:m=48) (hc:m≤c4)  {c0:Prop} {ch0:List (Option Value)}:Runs Try.prog (cAt [1,1,1,1,0] (bdy Try.f15)) ⟨dKyI_s K N m c4 j,dKyI_m K N m c4,c0,ch0⟩ (fun e s=>e= .normal∧∃(j:Nat→Value) (c:Prop) (ch:List (Option Value)),s=⟨dKyJ_s K N m c4 j,dKyJ_m K N m c4,c,ch⟩) 0:=by
  refine(runs_ev mixed _ (dKy0gp_0 K N m c4 j) trivial).mono ?_
  rintro e s ⟨rfl,hs⟩
  refine⟨rfl,fun q=>s.tm.getD q undef,s.c,s.ch,?_⟩
  subst hs
  kernel_rfl
abbrev dKyK_s (K N:List Int) (m c4:Nat) (j:Nat→Value):List Value:=([j 0,j 1,.pointer (some ⟨0,0,none⟩),.pointer (some ⟨1,0,none⟩),.pointer (some ⟨2,0,none⟩),.pointer (some ⟨3,0,none⟩),j 6,.slice (some ⟨5,0,none⟩) m c4,j 8,.pointer (some ⟨6,0,none⟩),.pointer (some ⟨7,0,none⟩)] ++ (J j 11 37))
abbrev dKyK_m (K N:List Int) (m c4:Nat):List Mb:= [((wA .u8 32 K),(27,(0,0))),((wA .u8 12 N),(28,(0,0))),((wA .u8 16 []),(22,(0,0))),((wA .u8 32 []),(27,(0,0))),((wA .u8 256 sbT),(53,(0,0))),((wA .u8 c4 (kyL K N 0 6)),(5,(0,0))),((wA .u8 16 []),(22,(0,0))),((wA .u8 32 []),(27,(0,0)))]
def dKy0hp_h (i:Nat):Hn:=⟨0,[],[],[],[]⟩
def dKy0hp_b (K N:List Int) (m c4:Nat) (j:Nat→Value):List Value:=([j 0,j 1,.pointer (some ⟨0,0,none⟩),.pointer (some ⟨1,0,none⟩),.pointer (some ⟨2,0,none⟩),.pointer (some ⟨3,0,none⟩),j 6,.slice (some ⟨5,0,none⟩) m c4,j 8,.pointer (some ⟨6,0,none⟩),.pointer (some ⟨7,0,none⟩)] ++ (J j 11 37))
theorem dKy0hp_0 (K N:List Int) (m c4:Nat) (j:Nat→Value):evC (yty.enm tabZ1 [mFirst] 0) dKy0hp_h (cAt [1,1,1,1,1,0] (bdy Try.f15)) ⟨dKyJ_s K N m c4 j,dKyJ_m K N m c4,True,[]⟩=some (.normal,⟨dKy0hp_b K N m c4 j,[((wA .u8 32 K),(27,(0,0))),((wA .u8 12 N),(28,(0,0))),((wA .u8 16 []),(22,(0,0))),((wA .u8 32 []),(27,(0,0))),((wA .u8 256 sbT),(53,(0,0))),((wA .u8 c4 (kyL K N 0 6)),(5,(0,0))),((wA .u8 16 []),(22,(0,0))),((wA .u8 32 []),(27,(0,0)))],True,[]⟩):=by kernel_rfl
theorem dKy0h (K N:List Int) (m c4:Nat) (j:Nat→Value) (hK:By K) (hN:By N) (hm:m=48) (hc:m≤c4)  {c0:Prop} {ch0:List (Option Value)}:Runs Try.prog (cAt [1,1,1,1,1,0] (bdy Try.f15)) ⟨dKyJ_s K N m c4 j,dKyJ_m K N m c4,c0,ch0⟩ (fun e s=>e= .normal∧∃(j:Nat→Value) (c:Prop) (ch:List (Option Value)),s=⟨dKyK_s K N m c4 j,dKyK_m K N m c4,c,ch⟩) 0:=by
  refine(runs_ev mixed _ (dKy0hp_0 K N m c4 j) trivial).mono ?_
  rintro e s ⟨rfl,hs⟩
  refine⟨rfl,fun q=>s.tm.getD q undef,s.c,s.ch,?_⟩
  subst hs
  kernel_rfl
abbrev dKyL_s (K N:List Int) (m c4:Nat) (k:Nat) (j:Nat→Value):List Value:=([j 0,j 1,.pointer (some ⟨0,0,none⟩),.pointer (some ⟨1,0,none⟩),.pointer (some ⟨2,0,none⟩),.pointer (some ⟨3,0,none⟩),j 6,.slice (some ⟨5,0,none⟩) m c4,j 8,.pointer (some ⟨6,0,none⟩),.pointer (some ⟨7,0,none⟩),.int .i64 ((k:Nat):Int)] ++ (J j 12 36))
abbrev dKyL_m (K N:List Int) (m c4:Nat) (k:Nat):List Mb:= [((wA .u8 32 K),(27,(0,0))),((wA .u8 12 N),(28,(0,0))),((wA .u8 16 []),(22,(0,0))),((wA .u8 32 []),(27,(0,0))),((wA .u8 256 sbT),(53,(0,0))),((wA .u8 c4 (kyL K N 0 6)),(5,(0,0))),((wA .u8 16 (cpL (kyL K N 0 6) 0 k)),(22,(0,0))),((wA .u8 32 []),(27,(0,0)))]
def dKy0ip_h (i:Nat):Hn:=⟨0,[],[],[],[]⟩
def dKy0ip_b (K N:List Int) (m c4:Nat) (j:Nat→Value):List Value:=([j 0,j 1,.pointer (some ⟨0,0,none⟩),.pointer (some ⟨1,0,none⟩),.pointer (some ⟨2,0,none⟩),.pointer (some ⟨3,0,none⟩),j 6,.slice (some ⟨5,0,none⟩) m c4,j 8,.pointer (some ⟨6,0,none⟩),.pointer (some ⟨7,0,none⟩),.int .i64 0] ++ (J j 12 36))
theorem dKy0ip_0 (K N:List Int) (m c4:Nat) (j:Nat→Value):evC (yty.enm tabZ1 [mFirst] 0) dKy0ip_h (cAt [1,1,1,1,1,1,0,0] (bdy Try.f15)) ⟨dKyK_s K N m c4 j,dKyK_m K N m c4,True,[]⟩=some (.normal,⟨dKy0ip_b K N m c4 j,[((wA .u8 32 K),(27,(0,0))),((wA .u8 12 N),(28,(0,0))),((wA .u8 16 []),(22,(0,0))),((wA .u8 32 []),(27,(0,0))),((wA .u8 256 sbT),(53,(0,0))),((wA .u8 c4 (kyL K N 0 6)),(5,(0,0))),((wA .u8 16 []),(22,(0,0))),((wA .u8 32 []),(27,(0,0)))],(True∧True),[]⟩):=by kernel_rfl
theorem dKy0i (K N:List Int) (m c4:Nat) (j:Nat→Value) (hK:By K) (hN:By N) (hm:m=48) (hc:m≤c4)  {c0:Prop} {ch0:List (Option Value)}:Runs Try.prog (cAt [1,1,1,1,1,1,0,0] (bdy Try.f15)) ⟨dKyK_s K N m c4 j,dKyK_m K N m c4,c0,ch0⟩ (fun e s=>e= .normal∧∃(j:Nat→Value) (c:Prop) (ch:List (Option Value)),(0≤16)∧s=⟨dKyL_s K N m c4 0 j,dKyL_m K N m c4 0,c,ch⟩) 0:=by
  refine(runs_ev mixed _ (dKy0ip_0 K N m c4 j) ⟨trivial,trivial⟩).mono ?_
  rintro e s ⟨rfl,hs⟩
  refine⟨rfl,fun q=>s.tm.getD q undef,s.c,s.ch,by omega,?_⟩
  subst hs
  kernel_rfl
def dKy0jp_h (i:Nat):Hn:=⟨0,[],[],[],[]⟩
def dKy0jp_b (K N:List Int) (m c4:Nat) (k:Nat) (j:Nat→Value):List Value:=([j 0,j 1,.pointer (some ⟨0,0,none⟩),.pointer (some ⟨1,0,none⟩),.pointer (some ⟨2,0,none⟩),.pointer (some ⟨3,0,none⟩),j 6,.slice (some ⟨5,0,none⟩) m c4,j 8,.pointer (some ⟨6,0,none⟩),.pointer (some ⟨7,0,none⟩),.int .i64 ((k+1:Nat):Int)] ++ (J j 12 13 ++ ([.int .i64 ((k:Nat):Int),.bool true,.int .i64 ((k:Nat):Int),.int .i64 ((k+1:Nat):Int),.int .i64 ((k:Nat):Int),.slice (some ⟨5,0,none⟩) m c4,.int .i64 ((k:Nat):Int),.pointer (some ⟨5,0+Int.toNat ((k:Nat):Int)*1,none⟩),.int .u8 ((kyL K N 0 6).getD k 0),.pointer (some ⟨6,0+Int.toNat ((k:Nat):Int)*1,none⟩)] ++ (J j 35 13))))
theorem dKy0jp_0 (K N:List Int) (m c4:Nat) (k:Nat) (j:Nat→Value):evC (yty.enm tabZ1 [mFirst] 0) dKy0jp_h (cAt [1,1,1,1,1,1,0,1,0,0] (bdy Try.f15)) ⟨dKyL_s K N m c4 k j,dKyL_m K N m c4 k,True,[some (.bool true),some (.int .u8 ((kyL K N 0 6).getD k 0)),some (.agg (wA .u8 16 (cpL (kyL K N 0 6) 0 (k+1)))),some (.int .i64 ((k+1:Nat):Int))]⟩=some (.normal,⟨dKy0jp_b K N m c4 k j,[((wA .u8 32 K),(27,(0,0))),((wA .u8 12 N),(28,(0,0))),((wA .u8 16 []),(22,(0,0))),((wA .u8 32 []),(27,(0,0))),((wA .u8 256 sbT),(53,(0,0))),((wA .u8 c4 (kyL K N 0 6)),(5,(0,0))),((wA .u8 16 (cpL (kyL K N 0 6) 0 (k+1))),(22,(0,0))),((wA .u8 32 []),(27,(0,0)))],((((((((((((True∧True)∧(True∧(decide (((k:Nat):Int)<16))=true))∧True)∧True)∧True)∧((0:Int)≤((k:Nat):Int)∧(((k:Nat):Int):Int)<((m:Nat):Int)))∧(((wA .u8 c4 (kyL K N 0 6))[(0+Int.toNat ((k:Nat):Int)*1)]? =some (.int .u8 ((kyL K N 0 6).getD k 0)))∧((kyL K N 0 6).getD k 0)=((kyL K N 0 6).getD k 0)))∧(0≤((k:Nat):Int)∧((k:Nat):Int)<((16:Nat):Int)))∧((0+Int.toNat ((k:Nat):Int)*1)<(wA .u8 16 (cpL (kyL K N 0 6) 0 k)).size∧(wA .u8 16 (cpL (kyL K N 0 6) 0 k)).setIfInBounds (0+Int.toNat ((k:Nat):Int)*1) (.int .u8 ((kyL K N 0 6).getD k 0))=(wA .u8 16 (cpL (kyL K N 0 6) 0 (k+1)))))∧True)∧(True∧(IntKind.i64.wrap (((k:Nat):Int)+1))=((k+1:Nat):Int)))∧True),[]⟩):=by kernel_rfl
theorem dKy0j (K N:List Int) (m c4:Nat) (k:Nat) (j:Nat→Value) (hK:By K) (hN:By N) (hm:m=48) (hc:m≤c4) (hk:k≤16) (hlt:k<16) {c0:Prop} {ch0:List (Option Value)}:Runs Try.prog (cAt [1,1,1,1,1,1,0,1,0,0] (bdy Try.f15)) ⟨dKyL_s K N m c4 k j,dKyL_m K N m c4 k,c0,ch0⟩ (fun e s=>e= .normal∧∃(j:Nat→Value) (c:Prop) (ch:List (Option Value)),((k+1)≤16)∧s=⟨dKyL_s K N m c4 (k+1) j,dKyL_m K N m c4 (k+1),c,ch⟩) 0:=by
  have h0:(decide (((k:Nat):Int)<16))=true:=(decide_eq_true (by omega))
  refine(runs_ev mixed _ (dKy0jp_0 K N m c4 k j) ⟨⟨⟨⟨⟨⟨⟨⟨⟨⟨⟨⟨trivial,trivial⟩,⟨trivial,h0⟩⟩,trivial⟩,trivial⟩,trivial⟩,(by(try simp only[Int.toNat_natCast,wA_size]);omega)⟩,⟨(wA_get (by omega) (by omega)),rfl⟩⟩,(by(try simp only[Int.toNat_natCast,wA_size]);omega)⟩,cpL_put (by omega) (by rw[Int.toNat_natCast];omega) (by rw[Nat.zero_add])⟩,trivial⟩,⟨trivial,(by rw[IntKind.wrap_i64];omega)⟩⟩,trivial⟩).mono ?_
  rintro e s ⟨rfl,hs⟩
  refine⟨rfl,fun q=>s.tm.getD q undef,s.c,s.ch,by omega,?_⟩
  subst hs
  kernel_rfl
abbrev dKyM_s (K N:List Int) (m c4:Nat) (j:Nat→Value):List Value:=([j 0,j 1,.pointer (some ⟨0,0,none⟩),.pointer (some ⟨1,0,none⟩),.pointer (some ⟨2,0,none⟩),.pointer (some ⟨3,0,none⟩),j 6,.slice (some ⟨5,0,none⟩) m c4,j 8,.pointer (some ⟨6,0,none⟩),.pointer (some ⟨7,0,none⟩)] ++ (J j 11 37))
abbrev dKyM_m (K N:List Int) (m c4:Nat):List Mb:= [((wA .u8 32 K),(27,(0,0))),((wA .u8 12 N),(28,(0,0))),((wA .u8 16 []),(22,(0,0))),((wA .u8 32 []),(27,(0,0))),((wA .u8 256 sbT),(53,(0,0))),((wA .u8 c4 (kyL K N 0 6)),(5,(0,0))),((wA .u8 16 (kyL K N 0 2)),(22,(0,0))),((wA .u8 32 []),(27,(0,0)))]
def dKy0kp_h (i:Nat):Hn:=⟨0,[],[],[],[]⟩
def dKy0kp_b (K N:List Int) (m c4:Nat) (k:Nat) (j:Nat→Value):List Value:=([j 0,j 1,.pointer (some ⟨0,0,none⟩),.pointer (some ⟨1,0,none⟩),.pointer (some ⟨2,0,none⟩),.pointer (some ⟨3,0,none⟩),j 6,.slice (some ⟨5,0,none⟩) m c4,j 8,.pointer (some ⟨6,0,none⟩),.pointer (some ⟨7,0,none⟩),.int .i64 ((k:Nat):Int)] ++ (J j 12 13 ++ ([.int .i64 ((k:Nat):Int),.bool false] ++ (J j 27 21))))
theorem dKy0kp_0 (K N:List Int) (m c4:Nat) (k:Nat) (j:Nat→Value):evC (yty.enm tabZ1 [mFirst] 0) dKy0kp_h (cAt [1,1,1,1,1,1,0,1,0,0] (bdy Try.f15)) ⟨dKyL_s K N m c4 k j,dKyL_m K N m c4 k,True,[some (.bool false)]⟩=some ((.exit 2),⟨dKy0kp_b K N m c4 k j,[((wA .u8 32 K),(27,(0,0))),((wA .u8 12 N),(28,(0,0))),((wA .u8 16 []),(22,(0,0))),((wA .u8 32 []),(27,(0,0))),((wA .u8 256 sbT),(53,(0,0))),((wA .u8 c4 (kyL K N 0 6)),(5,(0,0))),((wA .u8 16 (cpL (kyL K N 0 6) 0 k)),(22,(0,0))),((wA .u8 32 []),(27,(0,0)))],((True∧True)∧(True∧(decide (((k:Nat):Int)<16))=false)),[]⟩):=by kernel_rfl
theorem dKy0k (K N:List Int) (m c4:Nat) (k:Nat) (j:Nat→Value) (hK:By K) (hN:By N) (hm:m=48) (hc:m≤c4) (hk:k≤16) (hge:¬ k<16) {c0:Prop} {ch0:List (Option Value)}:Runs Try.prog (cAt [1,1,1,1,1,1,0,1,0,0] (bdy Try.f15)) ⟨dKyL_s K N m c4 k j,dKyL_m K N m c4 k,c0,ch0⟩ (fun e s=>e=(.exit 2)∧∃(j:Nat→Value) (c:Prop) (ch:List (Option Value)),s=⟨dKyM_s K N m c4 j,dKyM_m K N m c4,c,ch⟩) 0:=by
  have h0:(decide (((k:Nat):Int)<16))=false:=(decide_eq_false (by omega))
  refine(runs_ev mixed _ (dKy0kp_0 K N m c4 k j) ⟨⟨trivial,trivial⟩,⟨trivial,h0⟩⟩).mono ?_
  rintro e s ⟨rfl,hs⟩
  refine⟨rfl,fun q=>s.tm.getD q undef,s.c,s.ch,?_⟩
  subst hs
  rw[show k=16 by omega,cp_a]
  kernel_rfl
theorem dKy0lL (K:List Int) (N:List Int) (m:Nat) (c4:Nat) (j:Nat→Value) (hK:By K) (hN:By N) (hm:m=48) (hc:m≤c4) (ihk:0≤16)  {c0:Prop} {ch0:List (Option Value)}:Runs Try.prog (.loop (cAt [1,1,1,1,1,1,0,1,0,0] (bdy Try.f15))) ⟨dKyL_s K N m c4 0 j,dKyL_m K N m c4 0,c0,ch0⟩ (fun e s=>e= .exit 2∧∃(k:Nat) (j:Nat→Value) (c:Prop) (ch:List (Option Value)),s=⟨dKyM_s K N m c4 j,dKyM_m K N m c4,c,ch⟩) 0:=by
  refine runs_loop (fun M s=>∃(k:Nat) (j:Nat→Value) (c:Prop) (ch:List (Option Value)),(k≤16)∧M=16 - k∧s=⟨dKyL_s K N m c4 k j,dKyL_m K N m c4 k,c,ch⟩) (16 - 0) ⟨0,j,c0,ch0,ihk,rfl,rfl⟩ ?_
  rintro M s ⟨k,j,c,ch,hk,rfl,rfl⟩
  by_cases hlt:k<16
  · skip
    refine(dKy0j K N m c4 k j hK hN hm hc hk hlt).mono ?_
    rintro e s ⟨rfl,j,c,ch,f4,rfl⟩
    exact .inl ⟨rfl,16 - (k+1),by omega,⟨(k+1),j,c,ch,f4,rfl,rfl⟩⟩
  · refine (dKy0k K N m c4 k j hK hN hm hc hk hlt).mono ?_
    intro e s hh
    obtain⟨rfl,j,c,ch,rfl⟩:=hh
    exact .inr ⟨by simp,rfl,k,j,c,ch,rfl⟩
theorem dKy0l (K:List Int) (N:List Int) (m:Nat) (c4:Nat) (j:Nat→Value) (hK:By K) (hN:By N) (hm:m=48) (hc:m≤c4) (ihk:0≤16)  {c0:Prop} {ch0:List (Option Value)}:Runs Try.prog (cAt [1,1,1,1,1,1,0,1] (bdy Try.f15)) ⟨dKyL_s K N m c4 0 j,dKyL_m K N m c4 0,c0,ch0⟩ (fun e s=>e= .normal∧∃(k:Nat) (j:Nat→Value) (c:Prop) (ch:List (Option Value)),s=⟨dKyM_s K N m c4 j,dKyM_m K N m c4,c,ch⟩) 0:=by
  rw[show(cAt [1,1,1,1,1,1,0,1] (bdy Try.f15))= .block 2 (.loop (cAt [1,1,1,1,1,1,0,1,0,0] (bdy Try.f15))) from by kernel_rfl]
  refine runs_block (dKy0lL K N m c4 j hK hN hm hc ihk ) ?_
  rintro e s ⟨rfl,hh⟩
  exact .inl ⟨rfl,rfl,hh⟩
theorem dKy0m (K N:List Int) (m c4:Nat) (j:Nat→Value) (hK:By K) (hN:By N) (hm:m=48) (hc:m≤c4)  {c0:Prop} {ch0:List (Option Value)}:Runs Try.prog (cAt [1,1,1,1,1,1,0] (bdy Try.f15)) ⟨dKyK_s K N m c4 j,dKyK_m K N m c4,c0,ch0⟩ (fun e s=>e= .normal∧∃(k1:Nat) (j:Nat→Value) (c:Prop) (ch:List (Option Value)),s=⟨dKyM_s K N m c4 j,dKyM_m K N m c4,c,ch⟩) 0:=by
  rw[show(cAt [1,1,1,1,1,1,0] (bdy Try.f15))=(.seq (cAt [1,1,1,1,1,1,0,0] (bdy Try.f15)) (cAt [1,1,1,1,1,1,0,1] (bdy Try.f15))) from by kernel_rfl]
  refine runs_seq (dKy0i K N m c4 j hK hN hm hc ) (fun s hh=> ?_) (fun e s hne hh=>absurd hh.1 hne)
  obtain⟨_,j,c,ch,f0_4,rfl⟩:=hh
  refine(dKy0l K N m c4 j hK hN hm hc f0_4 ).mono ?_
  rintro e s ⟨rfl,k1,j,c,ch,rfl⟩
  exact⟨rfl,k1,j,c,ch,rfl⟩
abbrev dKyN_s (K N:List Int) (m c4:Nat) (k:Nat) (j:Nat→Value):List Value:=([j 0,j 1,.pointer (some ⟨0,0,none⟩),.pointer (some ⟨1,0,none⟩),.pointer (some ⟨2,0,none⟩),.pointer (some ⟨3,0,none⟩),j 6,.slice (some ⟨5,0,none⟩) m c4,j 8,.pointer (some ⟨6,0,none⟩),.pointer (some ⟨7,0,none⟩),j 11,.int .i64 ((k:Nat):Int)] ++ (J j 13 35))
abbrev dKyN_m (K N:List Int) (m c4:Nat) (k:Nat):List Mb:= [((wA .u8 32 K),(27,(0,0))),((wA .u8 12 N),(28,(0,0))),((wA .u8 16 []),(22,(0,0))),((wA .u8 32 []),(27,(0,0))),((wA .u8 256 sbT),(53,(0,0))),((wA .u8 c4 (kyL K N 0 6)),(5,(0,0))),((wA .u8 16 (kyL K N 0 2)),(22,(0,0))),((wA .u8 32 (cpL (kyL K N 0 6) 16 k)),(27,(0,0)))]
def dKy0np_h (i:Nat):Hn:=⟨0,[],[],[],[]⟩
def dKy0np_b (K N:List Int) (m c4:Nat) (j:Nat→Value):List Value:=([j 0,j 1,.pointer (some ⟨0,0,none⟩),.pointer (some ⟨1,0,none⟩),.pointer (some ⟨2,0,none⟩),.pointer (some ⟨3,0,none⟩),j 6,.slice (some ⟨5,0,none⟩) m c4,j 8,.pointer (some ⟨6,0,none⟩),.pointer (some ⟨7,0,none⟩),j 11,.int .i64 0] ++ (J j 13 35))
theorem dKy0np_0 (K N:List Int) (m c4:Nat) (j:Nat→Value):evC (yty.enm tabZ1 [mFirst] 0) dKy0np_h (cAt [1,1,1,1,1,1,1,0,0] (bdy Try.f15)) ⟨dKyM_s K N m c4 j,dKyM_m K N m c4,True,[]⟩=some (.normal,⟨dKy0np_b K N m c4 j,[((wA .u8 32 K),(27,(0,0))),((wA .u8 12 N),(28,(0,0))),((wA .u8 16 []),(22,(0,0))),((wA .u8 32 []),(27,(0,0))),((wA .u8 256 sbT),(53,(0,0))),((wA .u8 c4 (kyL K N 0 6)),(5,(0,0))),((wA .u8 16 (kyL K N 0 2)),(22,(0,0))),((wA .u8 32 []),(27,(0,0)))],(True∧True),[]⟩):=by kernel_rfl
theorem dKy0n (K N:List Int) (m c4:Nat) (j:Nat→Value) (hK:By K) (hN:By N) (hm:m=48) (hc:m≤c4)  {c0:Prop} {ch0:List (Option Value)}:Runs Try.prog (cAt [1,1,1,1,1,1,1,0,0] (bdy Try.f15)) ⟨dKyM_s K N m c4 j,dKyM_m K N m c4,c0,ch0⟩ (fun e s=>e= .normal∧∃(j:Nat→Value) (c:Prop) (ch:List (Option Value)),(0≤32)∧s=⟨dKyN_s K N m c4 0 j,dKyN_m K N m c4 0,c,ch⟩) 0:=by
  refine(runs_ev mixed _ (dKy0np_0 K N m c4 j) ⟨trivial,trivial⟩).mono ?_
  rintro e s ⟨rfl,hs⟩
  refine⟨rfl,fun q=>s.tm.getD q undef,s.c,s.ch,by omega,?_⟩
  subst hs
  kernel_rfl
def dKy0op_h (i:Nat):Hn:=⟨0,[],[],[],[]⟩
def dKy0op_b (K N:List Int) (m c4:Nat) (k:Nat) (j:Nat→Value):List Value:=([j 0,j 1,.pointer (some ⟨0,0,none⟩),.pointer (some ⟨1,0,none⟩),.pointer (some ⟨2,0,none⟩),.pointer (some ⟨3,0,none⟩),j 6,.slice (some ⟨5,0,none⟩) m c4,j 8,.pointer (some ⟨6,0,none⟩),.pointer (some ⟨7,0,none⟩),j 11,.int .i64 ((k+1:Nat):Int)] ++ (J j 13 22 ++ ([.int .i64 ((k:Nat):Int),.bool true,.int .i64 ((k:Nat):Int),.int .i64 ((k+1:Nat):Int),.int .i64 ((k:Nat):Int),.slice (some ⟨5,0,none⟩) m c4,.int .i64 ((k:Nat):Int),.int .i64 ((16+k:Nat):Int),.pointer (some ⟨5,0+Int.toNat ((16+k:Nat):Int)*1,none⟩),.int .u8 ((kyL K N 0 6).getD (16+k) 0),.pointer (some ⟨7,0+Int.toNat ((k:Nat):Int)*1,none⟩),j 46,j 47])))
theorem dKy0op_0 (K N:List Int) (m c4:Nat) (k:Nat) (j:Nat→Value):evC (yty.enm tabZ1 [mFirst] 0) dKy0op_h (cAt [1,1,1,1,1,1,1,0,1,0,0] (bdy Try.f15)) ⟨dKyN_s K N m c4 k j,dKyN_m K N m c4 k,True,[some (.bool true),some (.int .i64 ((16+k:Nat):Int)),some (.int .u8 ((kyL K N 0 6).getD (16+k) 0)),some (.agg (wA .u8 32 (cpL (kyL K N 0 6) 16 (k+1)))),some (.int .i64 ((k+1:Nat):Int))]⟩=some (.normal,⟨dKy0op_b K N m c4 k j,[((wA .u8 32 K),(27,(0,0))),((wA .u8 12 N),(28,(0,0))),((wA .u8 16 []),(22,(0,0))),((wA .u8 32 []),(27,(0,0))),((wA .u8 256 sbT),(53,(0,0))),((wA .u8 c4 (kyL K N 0 6)),(5,(0,0))),((wA .u8 16 (kyL K N 0 2)),(22,(0,0))),((wA .u8 32 (cpL (kyL K N 0 6) 16 (k+1))),(27,(0,0)))],(((((((((((((True∧True)∧(True∧(decide (((k:Nat):Int)<32))=true))∧True)∧True)∧True)∧(True∧(IntKind.i64.wrap (16+((k:Nat):Int)))=((16+k:Nat):Int)))∧((0:Int)≤((16+k:Nat):Int)∧(((16+k:Nat):Int):Int)<((m:Nat):Int)))∧(((wA .u8 c4 (kyL K N 0 6))[(0+Int.toNat ((16+k:Nat):Int)*1)]? =some (.int .u8 ((kyL K N 0 6).getD (16+k) 0)))∧((kyL K N 0 6).getD (16+k) 0)=((kyL K N 0 6).getD (16+k) 0)))∧(0≤((k:Nat):Int)∧((k:Nat):Int)<((32:Nat):Int)))∧((0+Int.toNat ((k:Nat):Int)*1)<(wA .u8 32 (cpL (kyL K N 0 6) 16 k)).size∧(wA .u8 32 (cpL (kyL K N 0 6) 16 k)).setIfInBounds (0+Int.toNat ((k:Nat):Int)*1) (.int .u8 ((kyL K N 0 6).getD (16+k) 0))=(wA .u8 32 (cpL (kyL K N 0 6) 16 (k+1)))))∧True)∧(True∧(IntKind.i64.wrap (((k:Nat):Int)+1))=((k+1:Nat):Int)))∧True),[]⟩):=by kernel_rfl
theorem dKy0o (K N:List Int) (m c4:Nat) (k:Nat) (j:Nat→Value) (hK:By K) (hN:By N) (hm:m=48) (hc:m≤c4) (hk:k≤32) (hlt:k<32) {c0:Prop} {ch0:List (Option Value)}:Runs Try.prog (cAt [1,1,1,1,1,1,1,0,1,0,0] (bdy Try.f15)) ⟨dKyN_s K N m c4 k j,dKyN_m K N m c4 k,c0,ch0⟩ (fun e s=>e= .normal∧∃(j:Nat→Value) (c:Prop) (ch:List (Option Value)),((k+1)≤32)∧s=⟨dKyN_s K N m c4 (k+1) j,dKyN_m K N m c4 (k+1),c,ch⟩) 0:=by
  have h0:(decide (((k:Nat):Int)<32))=true:=(decide_eq_true (by omega))
  refine(runs_ev mixed _ (dKy0op_0 K N m c4 k j) ⟨⟨⟨⟨⟨⟨⟨⟨⟨⟨⟨⟨⟨trivial,trivial⟩,⟨trivial,h0⟩⟩,trivial⟩,trivial⟩,trivial⟩,⟨trivial,(by rw[IntKind.wrap_i64];omega)⟩⟩,(by(try simp only[Int.toNat_natCast,wA_size]);omega)⟩,⟨(wA_get (by omega) (by omega)),rfl⟩⟩,(by(try simp only[Int.toNat_natCast,wA_size]);omega)⟩,cpL_put (by omega) (by rw[Int.toNat_natCast];omega) rfl⟩,trivial⟩,⟨trivial,(by rw[IntKind.wrap_i64];omega)⟩⟩,trivial⟩).mono ?_
  rintro e s ⟨rfl,hs⟩
  refine⟨rfl,fun q=>s.tm.getD q undef,s.c,s.ch,by omega,?_⟩
  subst hs
  kernel_rfl
abbrev dKyO_s (K N:List Int) (m c4:Nat) (j:Nat→Value):List Value:=([j 0,j 1,.pointer (some ⟨0,0,none⟩),.pointer (some ⟨1,0,none⟩),.pointer (some ⟨2,0,none⟩),.pointer (some ⟨3,0,none⟩),j 6,.slice (some ⟨5,0,none⟩) m c4,j 8,.pointer (some ⟨6,0,none⟩),.pointer (some ⟨7,0,none⟩)] ++ (J j 11 37))
abbrev dKyO_m (K N:List Int) (m c4:Nat):List Mb:= [((wA .u8 32 K),(27,(0,0))),((wA .u8 12 N),(28,(0,0))),((wA .u8 16 []),(22,(0,0))),((wA .u8 32 []),(27,(0,0))),((wA .u8 256 sbT),(53,(0,0))),((wA .u8 c4 (kyL K N 0 6)),(5,(0,0))),((wA .u8 16 (kyL K N 0 2)),(22,(0,0))),((wA .u8 32 (kyL K N 2 4)),(27,(0,0)))]
def dKy0pp_h (i:Nat):Hn:=⟨0,[],[],[],[]⟩
def dKy0pp_b (K N:List Int) (m c4:Nat) (k:Nat) (j:Nat→Value):List Value:=([j 0,j 1,.pointer (some ⟨0,0,none⟩),.pointer (some ⟨1,0,none⟩),.pointer (some ⟨2,0,none⟩),.pointer (some ⟨3,0,none⟩),j 6,.slice (some ⟨5,0,none⟩) m c4,j 8,.pointer (some ⟨6,0,none⟩),.pointer (some ⟨7,0,none⟩),j 11,.int .i64 ((k:Nat):Int)] ++ (J j 13 22 ++ ([.int .i64 ((k:Nat):Int),.bool false] ++ (J j 37 11))))
theorem dKy0pp_0 (K N:List Int) (m c4:Nat) (k:Nat) (j:Nat→Value):evC (yty.enm tabZ1 [mFirst] 0) dKy0pp_h (cAt [1,1,1,1,1,1,1,0,1,0,0] (bdy Try.f15)) ⟨dKyN_s K N m c4 k j,dKyN_m K N m c4 k,True,[some (.bool false)]⟩=some ((.exit 4),⟨dKy0pp_b K N m c4 k j,[((wA .u8 32 K),(27,(0,0))),((wA .u8 12 N),(28,(0,0))),((wA .u8 16 []),(22,(0,0))),((wA .u8 32 []),(27,(0,0))),((wA .u8 256 sbT),(53,(0,0))),((wA .u8 c4 (kyL K N 0 6)),(5,(0,0))),((wA .u8 16 (kyL K N 0 2)),(22,(0,0))),((wA .u8 32 (cpL (kyL K N 0 6) 16 k)),(27,(0,0)))],((True∧True)∧(True∧(decide (((k:Nat):Int)<32))=false)),[]⟩):=by kernel_rfl
theorem dKy0p (K N:List Int) (m c4:Nat) (k:Nat) (j:Nat→Value) (hK:By K) (hN:By N) (hm:m=48) (hc:m≤c4) (hk:k≤32) (hge:¬ k<32) {c0:Prop} {ch0:List (Option Value)}:Runs Try.prog (cAt [1,1,1,1,1,1,1,0,1,0,0] (bdy Try.f15)) ⟨dKyN_s K N m c4 k j,dKyN_m K N m c4 k,c0,ch0⟩ (fun e s=>e=(.exit 4)∧∃(j:Nat→Value) (c:Prop) (ch:List (Option Value)),s=⟨dKyO_s K N m c4 j,dKyO_m K N m c4,c,ch⟩) 0:=by
  have h0:(decide (((k:Nat):Int)<32))=false:=(decide_eq_false (by omega))
  refine(runs_ev mixed _ (dKy0pp_0 K N m c4 k j) ⟨⟨trivial,trivial⟩,⟨trivial,h0⟩⟩).mono ?_
  rintro e s ⟨rfl,hs⟩
  refine⟨rfl,fun q=>s.tm.getD q undef,s.c,s.ch,?_⟩
  subst hs
  rw[show k=32 by omega,cp_b]
  kernel_rfl
theorem dKy0qL (K:List Int) (N:List Int) (m:Nat) (c4:Nat) (j:Nat→Value) (hK:By K) (hN:By N) (hm:m=48) (hc:m≤c4) (ihk:0≤32)  {c0:Prop} {ch0:List (Option Value)}:Runs Try.prog (.loop (cAt [1,1,1,1,1,1,1,0,1,0,0] (bdy Try.f15))) ⟨dKyN_s K N m c4 0 j,dKyN_m K N m c4 0,c0,ch0⟩ (fun e s=>e= .exit 4∧∃(k:Nat) (j:Nat→Value) (c:Prop) (ch:List (Option Value)),s=⟨dKyO_s K N m c4 j,dKyO_m K N m c4,c,ch⟩) 0:=by
  refine runs_loop (fun M s=>∃(k:Nat) (j:Nat→Value) (c:Prop) (ch:List (Option Value)),(k≤32)∧M=32 - k∧s=⟨dKyN_s K N m c4 k j,dKyN_m K N m c4 k,c,ch⟩) (32 - 0) ⟨0,j,c0,ch0,ihk,rfl,rfl⟩ ?_
  rintro M s ⟨k,j,c,ch,hk,rfl,rfl⟩
  by_cases hlt:k<32
  · skip
    refine(dKy0o K N m c4 k j hK hN hm hc hk hlt).mono ?_
    rintro e s ⟨rfl,j,c,ch,f4,rfl⟩
    exact .inl ⟨rfl,32 - (k+1),by omega,⟨(k+1),j,c,ch,f4,rfl,rfl⟩⟩
  · refine (dKy0p K N m c4 k j hK hN hm hc hk hlt).mono ?_
    intro e s hh
    obtain⟨rfl,j,c,ch,rfl⟩:=hh
    exact .inr ⟨by simp,rfl,k,j,c,ch,rfl⟩
theorem dKy0q (K:List Int) (N:List Int) (m:Nat) (c4:Nat) (j:Nat→Value) (hK:By K) (hN:By N) (hm:m=48) (hc:m≤c4) (ihk:0≤32)  {c0:Prop} {ch0:List (Option Value)}:Runs Try.prog (cAt [1,1,1,1,1,1,1,0,1] (bdy Try.f15)) ⟨dKyN_s K N m c4 0 j,dKyN_m K N m c4 0,c0,ch0⟩ (fun e s=>e= .normal∧∃(k:Nat) (j:Nat→Value) (c:Prop) (ch:List (Option Value)),s=⟨dKyO_s K N m c4 j,dKyO_m K N m c4,c,ch⟩) 0:=by
  rw[show(cAt [1,1,1,1,1,1,1,0,1] (bdy Try.f15))= .block 4 (.loop (cAt [1,1,1,1,1,1,1,0,1,0,0] (bdy Try.f15))) from by kernel_rfl]
  refine runs_block (dKy0qL K N m c4 j hK hN hm hc ihk ) ?_
  rintro e s ⟨rfl,hh⟩
  exact .inl ⟨rfl,rfl,hh⟩
theorem dKy0r (K N:List Int) (m c4:Nat) (j:Nat→Value) (hK:By K) (hN:By N) (hm:m=48) (hc:m≤c4)  {c0:Prop} {ch0:List (Option Value)}:Runs Try.prog (cAt [1,1,1,1,1,1,1,0] (bdy Try.f15)) ⟨dKyM_s K N m c4 j,dKyM_m K N m c4,c0,ch0⟩ (fun e s=>e= .normal∧∃(k1:Nat) (j:Nat→Value) (c:Prop) (ch:List (Option Value)),s=⟨dKyO_s K N m c4 j,dKyO_m K N m c4,c,ch⟩) 0:=by
  rw[show(cAt [1,1,1,1,1,1,1,0] (bdy Try.f15))=(.seq (cAt [1,1,1,1,1,1,1,0,0] (bdy Try.f15)) (cAt [1,1,1,1,1,1,1,0,1] (bdy Try.f15))) from by kernel_rfl]
  refine runs_seq (dKy0n K N m c4 j hK hN hm hc ) (fun s hh=> ?_) (fun e s hne hh=>absurd hh.1 hne)
  obtain⟨_,j,c,ch,f0_4,rfl⟩:=hh
  refine(dKy0q K N m c4 j hK hN hm hc f0_4 ).mono ?_
  rintro e s ⟨rfl,k1,j,c,ch,rfl⟩
  exact⟨rfl,k1,j,c,ch,rfl⟩
abbrev dKyP_s (K N:List Int) (m c4:Nat) (j:Nat→Value):List Value:=(J j 0 4 ++ ([.pointer (some ⟨2,0,none⟩),.pointer (some ⟨3,0,none⟩)] ++ (J j 6 42)))
abbrev dKyP_m (K N:List Int) (m c4:Nat):List Mb:= [((wA .u8 32 K),(27,(0,0))),((wA .u8 12 N),(28,(0,0))),((wA .u8 16 (kyL K N 0 2)),(22,(0,0))),((wA .u8 32 (kyL K N 2 4)),(27,(0,0))),((wA .u8 256 sbT),(53,(0,0))),((wA .u8 c4 (kyL K N 0 6)),(5,(0,0))),((wA .u8 16 (kyL K N 0 2)),(22,(0,0))),((wA .u8 32 (kyL K N 2 4)),(27,(0,0)))]
def dKy0sp_h (i:Nat):Hn:=if i=17 then⟨0,[(0,true),(1,true),(2,false),(3,false)],[],[0,1,4,5,6,7],[]⟩ else⟨0,[],[],[],[]⟩
def dKy0sp_b (K N:List Int) (m c4:Nat) (j:Nat→Value):List Value:=([j 0,j 1,.pointer (some ⟨0,0,none⟩),.pointer (some ⟨1,0,none⟩),.pointer (some ⟨2,0,none⟩),.pointer (some ⟨3,0,none⟩),j 6,.slice (some ⟨5,0,none⟩) m c4,j 8,.pointer (some ⟨6,0,none⟩),.pointer (some ⟨7,0,none⟩)] ++ (J j 11 35 ++ ([.agg (wA .u8 16 (kyL K N 0 2)),.agg (wA .u8 32 (kyL K N 2 4))])))
theorem dKy0sp_0 (K N:List Int) (m c4:Nat) (j:Nat→Value):evC (yty.enm tabZ1 [mFirst] 0) dKy0sp_h (cAt [1,1,1,1,1,1,1,1] (bdy Try.f15)) ⟨dKyO_s K N m c4 j,dKyO_m K N m c4,True,[]⟩=some (.ret,⟨dKy0sp_b K N m c4 j,[((wA .u8 32 K),(27,(0,0))),((wA .u8 12 N),(28,(0,0))),((wA .u8 16 (kyL K N 0 2)),(22,(0,0))),((wA .u8 32 (kyL K N 2 4)),(27,(0,0))),((wA .u8 256 sbT),(53,(0,0))),((wA .u8 c4 (kyL K N 0 6)),(5,(0,0))),((wA .u8 16 (kyL K N 0 2)),(22,(0,0))),((wA .u8 32 (kyL K N 2 4)),(27,(0,0)))],((((True∧True)∧True)∧((wA .u8 16 (kyL K N 0 2)).all (fun v=>v.oneCell')=true))∧((wA .u8 32 (kyL K N 2 4)).all (fun v=>v.oneCell')=true)),[]⟩):=by kernel_rfl
theorem dKy0s (K N:List Int) (m c4:Nat) (j:Nat→Value) (hK:By K) (hN:By N) (hm:m=48) (hc:m≤c4)  {c0:Prop} {ch0:List (Option Value)}:Runs Try.prog (cAt [1,1,1,1,1,1,1,1] (bdy Try.f15)) ⟨dKyO_s K N m c4 j,dKyO_m K N m c4,c0,ch0⟩ (fun e s=>e= .ret∧∃(j:Nat→Value) (c:Prop) (ch:List (Option Value)),s=⟨dKyP_s K N m c4 j,dKyP_m K N m c4,c,ch⟩) 0:=by
  refine(runs_ev mixed _ (dKy0sp_0 K N m c4 j) ⟨⟨⟨⟨trivial,trivial⟩,trivial⟩,(wA_one _ _ _)⟩,(wA_one _ _ _)⟩).mono ?_
  rintro e s ⟨rfl,hs⟩
  refine⟨rfl,fun q=>s.tm.getD q undef,s.c,s.ch,?_⟩
  subst hs
  kernel_rfl
theorem dKyu (K N:List Int) (j:Nat→Value) (hK:By K) (hN:By N)  {c0:Prop} {ch0:List (Option Value)}:Runs Try.prog (cAt [] (bdy Try.f15)) ⟨dKyA_s K N j,dKyA_m K N,c0,ch0⟩ (fun e s=>e= .ret∧∃(i13:Nat) (m13:Nat) (c413:Nat) (Y13:List Int) (k16:Nat) (k17:Nat) (j:Nat→Value) (c:Prop) (ch:List (Option Value)),s=⟨dKyP_s K N m13 c413 j,dKyP_m K N m13 c413,c,ch⟩) 0:=by
  rw[show(cAt [] (bdy Try.f15))=(.seq (cAt [0] (bdy Try.f15)) (.seq (cAt [1,0] (bdy Try.f15)) (.seq (cAt [1,1,0] (bdy Try.f15)) (.seq (cAt [1,1,1,0] (bdy Try.f15)) (.seq (cAt [1,1,1,1,0] (bdy Try.f15)) (.seq (cAt [1,1,1,1,1,0] (bdy Try.f15)) (.seq (cAt [1,1,1,1,1,1,0] (bdy Try.f15)) (.seq (cAt [1,1,1,1,1,1,1,0] (bdy Try.f15)) (cAt [1,1,1,1,1,1,1,1] (bdy Try.f15)))))))))) from by kernel_rfl]
  refine runs_seq (dKy0 K N j hK hN ) (fun s hh=> ?_) (fun e s hne hh=>absurd hh.1 hne)
  obtain⟨_,j,c,ch,rfl⟩:=hh
  refine runs_seq (dKy1 K N j hK hN ) (fun s hh=> ?_) (fun e s hne hh=>absurd hh.1 hne)
  obtain⟨_,j,c,ch,rfl⟩:=hh
  refine runs_seq (dKy2 K N j hK hN ) (fun s hh=> ?_) (fun e s hne hh=>absurd hh.1 hne)
  obtain⟨_,j,c,ch,rfl⟩:=hh
  refine runs_seq (dKy0f K N j hK hN ) (fun s hh=> ?_) (fun e s hne hh=>absurd hh.1 hne)
  obtain⟨_,i13,m13,c413,Y13,j,c,ch,f3_2,f3_3,rfl⟩:=hh
  refine runs_seq (dKy0g K N m13 c413 j hK hN f3_2 f3_3 ) (fun s hh=> ?_) (fun e s hne hh=>absurd hh.1 hne)
  obtain⟨_,j,c,ch,rfl⟩:=hh
  refine runs_seq (dKy0h K N m13 c413 j hK hN f3_2 f3_3 ) (fun s hh=> ?_) (fun e s hne hh=>absurd hh.1 hne)
  obtain⟨_,j,c,ch,rfl⟩:=hh
  refine runs_seq (dKy0m K N m13 c413 j hK hN f3_2 f3_3 ) (fun s hh=> ?_) (fun e s hne hh=>absurd hh.1 hne)
  obtain⟨_,k16,j,c,ch,rfl⟩:=hh
  refine runs_seq (dKy0r K N m13 c413 j hK hN f3_2 f3_3 ) (fun s hh=> ?_) (fun e s hne hh=>absurd hh.1 hne)
  obtain⟨_,k17,j,c,ch,rfl⟩:=hh
  refine(dKy0s K N m13 c413 j hK hN f3_2 f3_3 ).mono ?_
  rintro e s ⟨rfl,j,c,ch,rfl⟩
  exact⟨rfl,i13,m13,c413,Y13,k16,k17,j,c,ch,rfl⟩
theorem dKy_c (K N:List Int) (hK:By K) (hN:By N):Pure Try.prog 15 #[.agg (wA .u8 32 K),.agg (wA .u8 12 N)] (.tuple #[.agg (wA .u8 16 (kyL K N 0 2)),.agg (wA .u8 32 (kyL K N 2 4))]):=by
  refine pure_runs (E:=(yty.enm tabZ1 [mFirst] 0)) Try.func15 (c:=bdy Try.f15) (by kernel_rfl) (args:= [.agg (wA .u8 32 K),.agg (wA .u8 12 N)]) (by kernel_rfl) (K:=fun e s=>e= .ret∧resS (yty.enm tabZ1 [mFirst] 0) s Try.f15.results.toList=some [.agg (wA .u8 16 (kyL K N 0 2)),.agg (wA .u8 32 (kyL K N 2 4))]) ?_ (fun e s h=>⟨h.1,_,h.2,rfl⟩)
  refine(dKyu K N (fun _=>undef) hK hN).mono ?_
  rintro e s ⟨rfl,i,m,c4,Y,k,k2,j,c,ch,rfl⟩
  exact⟨rfl,by kernel_rfl⟩
def pdk:Entry Try.prog:=entLL Try.func15 (by kernel_rfl) (by kernel_rfl) 32 12 (fun K N=> .tuple #[.agg (wA .u8 16 (kyL K N 0 2)),.agg (wA .u8 32 (kyL K N 2 4))]) (fun K N h1 h2=>dKy_c K N h1 h2)
end Go.Proofs.Ytnadkbniljejfaa

set_option linter.unusedSimpArgs false
set_option linter.unusedVariables false
/-! siv: POLYVAL and keys are the document's. -/
namespace Go.Proofs.Ytnadkbniljejfaa
open Go.RowKit Go.Ev
theorem absL_h (H L:List Int):absL (dL8 (wA .u8 16 H)) [] L=absL H [] L:=by rw[← absL_w1,absL_w]
theorem bL_by {a:Array Value} {p r:Nat} (h:bytesAt a p r):By (bL a p r):=fun i=>by
  rw[bL_at]
  split
  · rename_i hi
    exact(h i hi).2
  · exact⟨by decide,by decide⟩
theorem Bk.by {a:Array Value} {bp:Option Addr} {r q:Nat} (h:Bk a bp r q):By (bO a bp r):=by
  obtain⟨_,⟨rfl,rfl,_⟩|⟨p,rfl,hb,_⟩⟩:=h
  · exact by_nil
  · exact bL_by hb
theorem BkOk.bk {a:Array Value} {t:Tq} {bp:Option Addr} {r q:Nat} (h:BkOk [(a,t)] bp r q):Bk a bp r q∧bOf [(a,t)] bp r=bO a bp r:=by
  obtain⟨hq,⟨rfl,rfl,h0⟩|⟨i,o,b,u,rfl,hm,hb,hz⟩⟩:=h
  · exact⟨⟨hq,.inl ⟨rfl,rfl,h0⟩⟩,rfl⟩
  · cases i with
    | zero =>
      simp only[List.getElem?_cons_zero,Option.some.injEq,Prod.mk.injEq] at hm
      obtain⟨rfl,rfl⟩:=hm
      exact⟨⟨hq,.inr ⟨o,rfl,hb,hz⟩⟩,rfl⟩
    |succ i=>simp at hm
theorem BkOk.by {mem:List Mb} {bp:Option Addr} {r q:Nat} (h:BkOk mem bp r q):By (bOf mem bp r):=by
  obtain⟨_,⟨rfl,rfl,_⟩|⟨i,o,a,t,rfl,hm,hb,_⟩⟩:=h
  · exact by_nil
  · simp only [bOf, hm]
    exact bL_by hb
section
variable {P:Program} {f:FuncId} {fn:Func} (hf:P.funcs[f]? =some fn) (hn:(fn.name == "runtime.NumGoroutine")=false) (hb:fn.body.isNone=false)
def entHB (F : List Int → List Int → Value) (h : ∀ a t H bp r q, By H → Bk a bp r q → r ≤ 1000000 → Reads P f [(a, t)] [.agg (wA .u8 16 H), .slice bp r q] (F H (bO a bp r))) : Entry P where
  f:=f
  g := fun mem xs => match mem, xs with
    |m :: g,[.agg x,.slice bp r q]=>some (F (dL8 x) (bOf (m :: g) bp r),((x=wA .u8 16 (dL8 x)∧By (dL8 x))∧BkOk (m :: g) bp r q∧r≤1000000))
    |_,_=>none
  ok := fun mem xs v c e hc w β hw _ => by
    split at e
    · rename_i m g x bp r q
      simp only[Option.some.injEq,Prod.mk.injEq] at e
      obtain⟨rfl,rfl⟩:=e
      obtain⟨⟨h1,h2⟩,hB,hl⟩:=hc
      obtain⟨i,y,q1,hm,hr,hB1⟩:=hB.lift 0
      obtain⟨a,t⟩:=y
      obtain⟨B1,E1⟩:=hB1 [(a,t)] rfl
      have := h a t (dL8 x) q1 r q h2 B1.bk.1 hl w (fun _ => β i) (fun k z hz => by
        match k,hz with
        | 0, hz =>
          simp only[List.getElem?_cons_zero,Option.some.injEq] at hz
          subst hz
          exact hw i _ hm
        |k+1,hz=>simp at hz) (fun i hi=>by simp at hi)
      rw[← B1.bk.2,E1,← h1] at this
      simp only[List.map_cons,List.map_nil,hr β (fun _=>β i) rfl] at this
      exact this
    · cases e
  call:=call_of hf hn hb
end
abbrev sPvA_s (a:Array Value) (t:Tq) (H:List Int) (bp:Option Addr) (l cp:Nat) (j:Nat→Value):List Value:=([.agg (wA .u8 16 H),.slice bp l cp] ++ (JU 7))
abbrev sPvA_m (a:Array Value) (t:Tq) (H:List Int) (bp:Option Addr) (l cp:Nat):List Mb:= [(a,t)]
abbrev sPvB_s (a:Array Value) (t:Tq) (H:List Int) (bp:Option Addr) (l cp:Nat) (S:List Int) (j:Nat→Value):List Value:=(J j 0 4 ++ ([.pointer (some ⟨2,0,none⟩)] ++ (J j 5 4)))
abbrev sPvB_m (a:Array Value) (t:Tq) (H:List Int) (bp:Option Addr) (l cp:Nat) (S:List Int):List Mb:= [(a,t),((wA .u8 16 H),(22,(0,0))),((wA .u8 16 S),(22,(0,0)))]
def sPv0p_h (i:Nat):Hn:=⟨0,[],[],[],[]⟩
def sPv0p_b (a:Array Value) (t:Tq) (H:List Int) (bp:Option Addr) (l cp:Nat) (j:Nat→Value):List Value:=([.agg (wA .u8 16 H),.slice bp l cp,.pointer (some ⟨1,0,none⟩),undef,.pointer (some ⟨2,0,none⟩),.agg (wA .u8 16 []),.agg (wA .u8 16 H),.slice bp l cp,.agg (wA .u8 16 (absL (dL8 (wA .u8 16 H)) (dL8 (wA .u8 16 [])) (bOf [(a,t),((wA .u8 16 H),(22,(0,0))),((wA .u8 16 []),(22,(0,0)))] bp l)))])
theorem sPv0p_0 (a:Array Value) (t:Tq) (H:List Int) (bp:Option Addr) (l cp:Nat) (j:Nat→Value):evC (yty.enf tabW2 1) sPv0p_h (cAt [] (bdy Try.f13)) ⟨sPvA_s a t H bp l cp j,sPvA_m a t H bp l cp,True,[]⟩=some (.ret,⟨sPv0p_b a t H bp l cp j,[(a,t),((wA .u8 16 H),(22,(0,0))),((wA .u8 16 (absL (dL8 (wA .u8 16 H)) (dL8 (wA .u8 16 [])) (bOf [(a,t),((wA .u8 16 H),(22,(0,0))),((wA .u8 16 []),(22,(0,0)))] bp l))),(22,(0,0)))],(((((True∧True)∧True)∧True)∧((((wA .u8 16 [])=wA .u8 16 (dL8 (wA .u8 16 []))∧By (dL8 (wA .u8 16 [])))∧((wA .u8 16 H)=wA .u8 16 (dL8 (wA .u8 16 H))∧By (dL8 (wA .u8 16 H))))∧BkOk [(a,t),((wA .u8 16 H),(22,(0,0))),((wA .u8 16 []),(22,(0,0)))] bp l cp∧l≤1000000000))∧((wA .u8 16 (absL (dL8 (wA .u8 16 H)) (dL8 (wA .u8 16 [])) (bOf [(a,t),((wA .u8 16 H),(22,(0,0))),((wA .u8 16 []),(22,(0,0)))] bp l))).all (fun v=>v.oneCell')=true)),[]⟩):=by kernel_rfl
theorem sPv0 (a:Array Value) (t:Tq) (H:List Int) (bp:Option Addr) (l cp:Nat) (j:Nat→Value) (hH:By H) (hb:BkOk [(a,t)] bp l cp) (hl:l≤1000000)  {c0:Prop} {ch0:List (Option Value)}:Runs Try.prog (cAt [] (bdy Try.f13)) ⟨sPvA_s a t H bp l cp j,sPvA_m a t H bp l cp,c0,ch0⟩ (fun e s=>e= .ret∧∃(j:Nat→Value) (c:Prop) (ch:List (Option Value)),((absL (dL8 (wA .u8 16 H)) (dL8 (wA .u8 16 [])) (bOf [(a,t),((wA .u8 16 H),(22,(0,0))),((wA .u8 16 []),(22,(0,0)))] bp l))=absL H [] (bOf [(a,t)] bp l))∧s=⟨sPvB_s a t H bp l cp (absL (dL8 (wA .u8 16 H)) (dL8 (wA .u8 16 [])) (bOf [(a,t),((wA .u8 16 H),(22,(0,0))),((wA .u8 16 []),(22,(0,0)))] bp l)) j,sPvB_m a t H bp l cp (absL (dL8 (wA .u8 16 H)) (dL8 (wA .u8 16 [])) (bOf [(a,t),((wA .u8 16 H),(22,(0,0))),((wA .u8 16 []),(22,(0,0)))] bp l)),c,ch⟩) 1:=by
  refine(runs_ev mixed _ (sPv0p_0 a t H bp l cp j) ⟨⟨⟨⟨⟨trivial,trivial⟩,trivial⟩,trivial⟩,⟨⟨dq by_nil,dq hH⟩,(hb.app _).1,by omega⟩⟩,(wA_one _ _ _)⟩).mono ?_
  rintro e s ⟨rfl,hs⟩
  refine⟨rfl,fun q=>s.tm.getD q undef,s.c,s.ch,by rw[absL_w];exact congrArg _ (hb.app [_,_]).2,?_⟩
  subst hs
  kernel_rfl
theorem sPv_c (a:Array Value) (t:Tq) (H:List Int) (bp:Option Addr) (l cp:Nat) (hH:By H) (hb:Bk a bp l cp) (hl:l≤1000000):Reads Try.prog 13 [(a,t)] [.agg (wA .u8 16 H),.slice bp l cp] (.agg (wA .u8 16 (absL H [] (bO a bp l)))):=by
  have ha: [Value.agg (wA .u8 16 H),.slice bp l cp].all (okp (1%big))=true:=by
    obtain⟨_,⟨rfl,rfl,_⟩|⟨p,rfl,_,_⟩⟩:=hb<;>kernel_rfl
  have hB:BkOk [(a,t)] bp l cp:=by
    obtain⟨hq,⟨rfl,rfl,h0⟩|⟨p,rfl,h1,h2⟩⟩:=hb
    · exact⟨hq,.inl ⟨rfl,rfl,h0⟩⟩
    · exact⟨hq,.inr ⟨0,p,a,t,rfl,rfl,h1,h2⟩⟩
  refine reads_runs (fk:=1) (yty.enf tabW2 1) Try.func13 (c:=bdy Try.f13) (by kernel_rfl) ⟨by rfl,by decide⟩ (args:= [.agg (wA .u8 16 H),.slice bp l cp]) ha (K:=fun e s=>e= .ret∧resS (yty.enf tabW2 1) s Try.f13.results.toList=some [.agg (wA .u8 16 (absL H [] (bO a bp l)))]) ?_ (fun e s h=>⟨h.1,_,h.2,rfl⟩)
  refine(sPv0 a t H bp l cp (fun _=>undef) hH hB hl).mono ?_
  rintro e s ⟨rfl,j,c,ch,hS,rfl⟩
  rw[← hB.bk.2,← hS]
  exact⟨rfl,by kernel_rfl⟩
def ppv:Entry Try.prog:=entHB Try.func13 (by kernel_rfl) (by kernel_rfl) (fun H N=> .agg (wA .u8 16 (absL H [] N))) (fun a t H bp r q h1 h2 h3=>sPv_c a t H bp r q h1 h2 h3)
def pdv9:Entry Try.prog:=entHB Try.func17 (by kernel_rfl) (by kernel_rfl) (fun H N=> .agg (wA .u8 16 (absL H [] N))) (fun a t H bp r q h1 h2 h3=>dPv_c a t H bp r q h1 h2 h2.by h3)
def tabQ9:List (Entry Try.prog):=ppv :: pdv9 :: pk9p :: pky :: pdk :: pk9 :: []
theorem lentB {mem:List Mb} {i:Nat} {N:List Int} {l c:Nat} {t:Tq} (hb:By N) (hl:N.length=l) (hc:(N ++ [77]).length≤c) (hm:mem[i]? =some (wA .u8 c (N ++ [77]),t)):BkOk mem (some ⟨i,0,none⟩) l c∧bOf mem (some ⟨i,0,none⟩) l=N:=by
  have hlc:l+1≤c:=by simpa[hl] using hc
  have hat:∀ j,j<l→(wA .u8 c (N ++ [77]))[j]? =some (.int .u8 (N.getD j 0)):=fun j hj=>by
    rw[wA_at (by omega),getD_app,if_pos (by omega)]
  have hi:∀ j,j<l→iat (wA .u8 c (N ++ [77])) j=N.getD j 0:=fun j hj=>by
    unfold iat
    rw[hat j hj]
  refine⟨⟨by omega,.inr ⟨i,0,_,_,rfl,hm,fun j hj=> ?_,by rw[wA_size];omega⟩⟩,?_⟩
  · rw [Nat.zero_add, hi j hj]
    exact⟨hat j hj,hb j⟩
  · simp only [bOf, hm]
    apply List.ext_getElem
    · rw[bL_len,hl]
    · intro j h1 h2
      rw[bL_len] at h1
      have:=bL_at (a:=wA .u8 c (N ++ [77])) (p:=0) (r:=l) (i:=j)
      rw[if_pos h1,Nat.zero_add,hi j h1,List.getD_eq_getElem?_getD,List.getD_eq_getElem?_getD,List.getElem?_eq_getElem (by rw[bL_len];exact h1),List.getElem?_eq_getElem h2] at this
      exact this
theorem nk32_lt {V:List Int} (hV:By V):nk (fun i=>(V.getD i 0).toNat) 32<256 ^ 32:=nk_lt (fun i=>(byNq hV i).2) 32
theorem by_is {V:List Int} (hV:By V):byD.is (wA .u8 32 V):=by
  refine⟨((nk (fun i=>(V.getD i 0).toNat) 32:Nat):Int),?_,?_⟩
  · have h := nk32_lt hV
    rw[show(256:Nat) ^ 32=115792089237316195423570985008687907853269984665640564039457584007913129639936 by decide] at h
    exact⟨by omega,by omega⟩
  · refine (wA_ext (byK_size _ 32) fun i hi => ?_).symm
    show(byC _)[i]? =_
    rw[byC_at _ i hi]
    have h:=nk_dig (f:=fun i=>(V.getD i 0).toNat) (fun i=>(byNq hV i).2) (k:=32) hi
    unfold byt
    have e:(256:Int) ^ i=((256 ^ i:Nat):Int):=by simp
    rw[e,(byNq hV i).1,← h]
    rfl
abbrev sLpsA_s (a:Array Value) (t:Tq) (bp:Option Addr) (l cp:Nat) (H K N X:List Int) (j:Nat→Value):List Value:=([.agg (wA .u8 16 H),.slice bp l cp,.agg (wA .u8 32 K),.agg (wA .u8 12 N)] ++ (JU 55))
abbrev sLpsA_m (a:Array Value) (t:Tq) (bp:Option Addr) (l cp:Nat) (H K N X:List Int):List Mb:= [(a,t)]
abbrev sLpsB_s (a:Array Value) (t:Tq) (bp:Option Addr) (l cp:Nat) (H K N X:List Int) (j:Nat→Value):List Value:=(J j 0 8 ++ ([.bool true] ++ (J j 9 50)))
abbrev sLpsB_m (a:Array Value) (t:Tq) (bp:Option Addr) (l cp:Nat) (H K N X:List Int):List Mb:= [(a,t),((wA .u8 16 H),(22,(0,0))),((wA .u8 32 K),(27,(0,0))),((wA .u8 12 N),(28,(0,0)))]
def sLpsLp_h (i:Nat):Hn:=if i=7 then⟨24,[],[],[],[]⟩ else⟨0,[],[],[],[]⟩
def sLpsLp_b (a:Array Value) (t:Tq) (bp:Option Addr) (l cp:Nat) (H K N X:List Int) (j:Nat→Value):List Value:=([.agg (wA .u8 16 H),.slice bp l cp,.agg (wA .u8 32 K),.agg (wA .u8 12 N),.pointer (some ⟨1,0,none⟩),undef,.pointer (some ⟨2,0,none⟩),.pointer (some ⟨3,0,none⟩),.bool true] ++ (JU 6 ++ ([.slice bp l cp,.int .i64 ((l:Nat):Int),.bool true,.bool true] ++ (JU 40))))
theorem sLpsLp_0 (a:Array Value) (t:Tq) (bp:Option Addr) (l cp:Nat) (H K N X:List Int) (j:Nat→Value):evC (yty.enf tabQ9 1) sLpsLp_h (cAt [] (bdy Try.f4)) ⟨sLpsA_s a t bp l cp H K N X j,sLpsA_m a t bp l cp H K N X,True,[some (.bool true)]⟩=some (.ret,⟨sLpsLp_b a t bp l cp H K N X j,[(a,t),((wA .u8 16 H),(22,(0,0))),((wA .u8 32 K),(27,(0,0))),((wA .u8 12 N),(28,(0,0)))],((((((True∧True)∧True)∧True)∧(True∧(decide (300<((l:Nat):Int)))=true))∧True)∧True),[]⟩):=by kernel_rfl
theorem sLpsL (a:Array Value) (t:Tq) (bp:Option Addr) (l cp:Nat) (H K N X:List Int) (j:Nat→Value) (hH:By H) (hK:By K) (hN:By N) (hb:BkOk [(a,t)] bp l cp) (hX:bOf [(a,t)] bp l=X) (hlong:300<l) {c0:Prop} {ch0:List (Option Value)}:Runs Try.prog (cAt [] (bdy Try.f4)) ⟨sLpsA_s a t bp l cp H K N X j,sLpsA_m a t bp l cp H K N X,c0,ch0⟩ (fun e s=>e= .ret∧∃(j:Nat→Value) (c:Prop) (ch:List (Option Value)),s=⟨sLpsB_s a t bp l cp H K N X j,sLpsB_m a t bp l cp H K N X,c,ch⟩) 1:=by
  have h0:(decide (300<((l:Nat):Int)))=true:=(decide_eq_true (by omega))
  refine(runs_ev mixed _ (sLpsLp_0 a t bp l cp H K N X j) ⟨⟨⟨⟨⟨⟨trivial,trivial⟩,trivial⟩,trivial⟩,⟨trivial,h0⟩⟩,trivial⟩,trivial⟩).mono ?_
  rintro e s ⟨rfl,hs⟩
  refine⟨rfl,fun q=>s.tm.getD q undef,s.c,s.ch,?_⟩
  subst hs
  kernel_rfl
abbrev sLpsC_s (a:Array Value) (t:Tq) (bp:Option Addr) (l cp:Nat) (H K N X:List Int) (j:Nat→Value):List Value:=([.agg (wA .u8 16 H),.slice bp l cp,.agg (wA .u8 32 K),.agg (wA .u8 12 N)] ++ (JU 55))
abbrev sLpsC_m (a:Array Value) (t:Tq) (bp:Option Addr) (l cp:Nat) (H K N X:List Int):List Mb:= [(a,t)]
abbrev sLpsD_s (a:Array Value) (t:Tq) (bp:Option Addr) (l cp:Nat) (H K N X:List Int) (j:Nat→Value):List Value:=([j 0,.slice bp l cp,j 2,j 3,.pointer (some ⟨1,0,none⟩),j 5,.pointer (some ⟨2,0,none⟩),.pointer (some ⟨3,0,none⟩)] ++ (J j 8 51))
abbrev sLpsD_m (a:Array Value) (t:Tq) (bp:Option Addr) (l cp:Nat) (H K N X:List Int):List Mb:= [(a,t),((wA .u8 16 H),(22,(0,0))),((wA .u8 32 K),(27,(0,0))),((wA .u8 12 N),(28,(0,0)))]
def sLps0p_h (i:Nat):Hn:=if i=7 then⟨24,[],[],[],[]⟩ else⟨0,[],[],[],[]⟩
def sLps0p_b (a:Array Value) (t:Tq) (bp:Option Addr) (l cp:Nat) (H K N X:List Int) (j:Nat→Value):List Value:=([.agg (wA .u8 16 H),.slice bp l cp,.agg (wA .u8 32 K),.agg (wA .u8 12 N),.pointer (some ⟨1,0,none⟩),undef,.pointer (some ⟨2,0,none⟩),.pointer (some ⟨3,0,none⟩),.bool false] ++ (JU 50))
theorem sLps0p_0 (a:Array Value) (t:Tq) (bp:Option Addr) (l cp:Nat) (H K N X:List Int) (j:Nat→Value):evC (yty.enf tabQ9 1) sLps0p_h (cAt [0] (bdy Try.f4)) ⟨sLpsC_s a t bp l cp H K N X j,sLpsC_m a t bp l cp H K N X,True,[]⟩=some (.normal,⟨sLps0p_b a t bp l cp H K N X j,[(a,t),((wA .u8 16 H),(22,(0,0))),((wA .u8 32 K),(27,(0,0))),((wA .u8 12 N),(28,(0,0)))],(True∧True),[]⟩):=by kernel_rfl
theorem sLps0 (a:Array Value) (t:Tq) (bp:Option Addr) (l cp:Nat) (H K N X:List Int) (j:Nat→Value) (hH:By H) (hK:By K) (hN:By N) (hb:BkOk [(a,t)] bp l cp) (hX:bOf [(a,t)] bp l=X) (hl:l≤300) (hXl:X.length=l) (hXb:By X)  {c0:Prop} {ch0:List (Option Value)}:Runs Try.prog (cAt [0] (bdy Try.f4)) ⟨sLpsC_s a t bp l cp H K N X j,sLpsC_m a t bp l cp H K N X,c0,ch0⟩ (fun e s=>e= .normal∧∃(j:Nat→Value) (c:Prop) (ch:List (Option Value)),s=⟨sLpsD_s a t bp l cp H K N X j,sLpsD_m a t bp l cp H K N X,c,ch⟩) 1:=by
  refine(runs_ev mixed _ (sLps0p_0 a t bp l cp H K N X j) ⟨trivial,trivial⟩).mono ?_
  rintro e s ⟨rfl,hs⟩
  refine⟨rfl,fun q=>s.tm.getD q undef,s.c,s.ch,?_⟩
  subst hs
  kernel_rfl
def sLps1p_h (i:Nat):Hn:=if i=7 then⟨24,[],[],[],[]⟩ else⟨0,[],[],[],[]⟩
def sLps1p_b (a:Array Value) (t:Tq) (bp:Option Addr) (l cp:Nat) (H K N X:List Int) (j:Nat→Value):List Value:=([j 0,.slice bp l cp,j 2,j 3,.pointer (some ⟨1,0,none⟩),j 5,.pointer (some ⟨2,0,none⟩),.pointer (some ⟨3,0,none⟩)] ++ (J j 8 7 ++ ([.slice bp l cp,.int .i64 ((l:Nat):Int),.bool false] ++ (J j 18 41))))
theorem sLps1p_0 (a:Array Value) (t:Tq) (bp:Option Addr) (l cp:Nat) (H K N X:List Int) (j:Nat→Value):evC (yty.enf tabQ9 1) sLps1p_h (cAt [1,0] (bdy Try.f4)) ⟨sLpsD_s a t bp l cp H K N X j,sLpsD_m a t bp l cp H K N X,True,[some (.bool false)]⟩=some (.normal,⟨sLps1p_b a t bp l cp H K N X j,[(a,t),((wA .u8 16 H),(22,(0,0))),((wA .u8 32 K),(27,(0,0))),((wA .u8 12 N),(28,(0,0)))],(((True∧True)∧True)∧(True∧(decide (300<((l:Nat):Int)))=false)),[]⟩):=by kernel_rfl
theorem sLps1 (a:Array Value) (t:Tq) (bp:Option Addr) (l cp:Nat) (H K N X:List Int) (j:Nat→Value) (hH:By H) (hK:By K) (hN:By N) (hb:BkOk [(a,t)] bp l cp) (hX:bOf [(a,t)] bp l=X) (hl:l≤300) (hXl:X.length=l) (hXb:By X)  {c0:Prop} {ch0:List (Option Value)}:Runs Try.prog (cAt [1,0] (bdy Try.f4)) ⟨sLpsD_s a t bp l cp H K N X j,sLpsD_m a t bp l cp H K N X,c0,ch0⟩ (fun e s=>e= .normal∧∃(j:Nat→Value) (c:Prop) (ch:List (Option Value)),s=⟨sLpsD_s a t bp l cp H K N X j,sLpsD_m a t bp l cp H K N X,c,ch⟩) 1:=by
  have h0:(decide (300<((l:Nat):Int)))=false:=(decide_eq_false (by omega))
  refine(runs_ev mixed _ (sLps1p_0 a t bp l cp H K N X j) ⟨⟨⟨trivial,trivial⟩,trivial⟩,⟨trivial,h0⟩⟩).mono ?_
  rintro e s ⟨rfl,hs⟩
  refine⟨rfl,fun q=>s.tm.getD q undef,s.c,s.ch,?_⟩
  subst hs
  kernel_rfl
abbrev sLpsE_s (a:Array Value) (t:Tq) (bp:Option Addr) (l cp:Nat) (H K N X:List Int) (c9:Nat) (j:Nat→Value):List Value:=([j 0,.slice bp l cp,j 2,j 3,.pointer (some ⟨1,0,none⟩),j 5,.pointer (some ⟨2,0,none⟩),.pointer (some ⟨3,0,none⟩),j 8,.slice (some ⟨4,0,none⟩) l c9] ++ (J j 10 49))
abbrev sLpsE_m (a:Array Value) (t:Tq) (bp:Option Addr) (l cp:Nat) (H K N X:List Int) (c9:Nat):List Mb:= [(a,t),((wA .u8 16 H),(22,(0,0))),((wA .u8 32 K),(27,(0,0))),((wA .u8 12 N),(28,(0,0))),((wA .u8 c9 (X ++ [77])),(5,(0,0)))]
def sLps2p_m (a:Array Value) (t:Tq) (bp:Option Addr) (l cp:Nat) (H K N X:List Int) (j:Nat→Value):List Value:=([j 0,.slice bp l cp,j 2,j 3,.pointer (some ⟨1,0,none⟩),j 5,.pointer (some ⟨2,0,none⟩),.pointer (some ⟨3,0,none⟩)] ++ (J j 8 11 ++ ([.slice bp l cp] ++ (J j 20 39))))
def sLps2p_b (a:Array Value) (t:Tq) (bp:Option Addr) (l cp:Nat) (H K N X:List Int) (j:Nat→Value) (k1:Nat):List Value:=([j 0,.slice bp l cp,j 2,j 3,.pointer (some ⟨1,0,none⟩),j 5,.pointer (some ⟨2,0,none⟩),.pointer (some ⟨3,0,none⟩),j 8,.slice (some ⟨4,0,none⟩) l k1] ++ (J j 10 9 ++ ([.slice bp l cp,.slice (some ⟨4,0,none⟩) l k1] ++ (J j 21 38))))
theorem sLps2p_1 (a:Array Value) (t:Tq) (bp:Option Addr) (l cp:Nat) (H K N X:List Int) (j:Nat→Value):evL (yty.enf tabQ9 1) (oT (cAt [1,1,0] (bdy Try.f4))) ((oT (cAt [1,1,0] (bdy Try.f4))).toList.take 1) ⟨sLpsD_s a t bp l cp H K N X j,sLpsD_m a t bp l cp H K N X,True,[]⟩=some ⟨sLps2p_m a t bp l cp H K N X j,[(a,t),((wA .u8 16 H),(22,(0,0))),((wA .u8 32 K),(27,(0,0))),((wA .u8 12 N),(28,(0,0)))],(True∧True),[]⟩:=by kernel_rfl
theorem sLps2p_2 (a:Array Value) (t:Tq) (bp:Option Addr) (l cp:Nat) (H K N X:List Int) (j:Nat→Value) (k1:Nat):evL (yty.enf tabQ9 1) (oT (cAt [1,1,0] (bdy Try.f4))) ((oT (cAt [1,1,0] (bdy Try.f4))).toList.drop 2) ⟨putS (sLps2p_m a t bp l cp H K N X j) (some 20) (.slice (some ⟨4,0,none⟩) l k1),[(a,t),((wA .u8 16 H),(22,(0,0))),((wA .u8 32 K),(27,(0,0))),((wA .u8 12 N),(28,(0,0)))] ++ [(wA .u8 k1 (X ++ [77]),5,(0,0))],True,[]⟩=some ⟨sLps2p_b a t bp l cp H K N X j k1,[(a,t),((wA .u8 16 H),(22,(0,0))),((wA .u8 32 K),(27,(0,0))),((wA .u8 12 N),(28,(0,0))),((wA .u8 k1 (X ++ [77])),(5,(0,0)))],(True∧True),[]⟩:=by kernel_rfl
theorem sLps2p_r (a:Array Value) (t:Tq) (bp:Option Addr) (l cp:Nat) (H K N X:List Int) (j:Nat→Value)  (hH:By H) (hK:By K) (hN:By N) (hb:BkOk [(a,t)] bp l cp) (hX:bOf [(a,t)] bp l=X) (hl:l≤300) (hXl:X.length=l) (hXb:By X) (hM:MakesA Try.prog 12 [(a,t),((wA .u8 16 H),(22,(0,0))),((wA .u8 32 K),(27,(0,0))),((wA .u8 12 N),(28,(0,0)))] [.slice bp l cp] .u8 l (X ++ [77]) 5 0) {c0:Prop} {ch0:List (Option Value)}:Runs Try.prog (cAt [1,1,0] (bdy Try.f4)) ⟨sLpsD_s a t bp l cp H K N X j,sLpsD_m a t bp l cp H K N X,c0,ch0⟩ (fun e s=>e= .normal∧∃ k1 c ch,((X ++ [77])).length≤k1∧s=⟨sLps2p_b a t bp l cp H K N X j k1,[(a,t),((wA .u8 16 H),(22,(0,0))),((wA .u8 32 K),(27,(0,0))),((wA .u8 12 N),(28,(0,0))),((wA .u8 k1 (X ++ [77])),(5,(0,0)))],c,ch⟩) 1:=
  (runs_call (E:=yty.enf tabQ9 1) (c:=(cAt [1,1,0] (bdy Try.f4))) (f:=12) (xs:= [.tmp 19]) (d:=some 20) (by kernel_rfl) 1 (sLps2p_1 a t bp l cp H K N X j) ⟨trivial,trivial⟩ (by kernel_rfl) (call_of Try.func12 (by kernel_rfl) (by kernel_rfl)) rfl hM rfl (of_decide_eq_true (by kernel_rfl)) _ (sLps2p_2 a t bp l cp H K N X j) (fun k1 e2=>⟨trivial,trivial⟩)).mono (fun e s ⟨h1,k1,h3,h4⟩=>⟨h1,k1,_,_,h3,h4⟩)
theorem sLps2 (a:Array Value) (t:Tq) (bp:Option Addr) (l cp:Nat) (H K N X:List Int) (j:Nat→Value) (hH:By H) (hK:By K) (hN:By N) (hb:BkOk [(a,t)] bp l cp) (hX:bOf [(a,t)] bp l=X) (hl:l≤300) (hXl:X.length=l) (hXb:By X)  {c0:Prop} {ch0:List (Option Value)}:Runs Try.prog (cAt [1,1,0] (bdy Try.f4)) ⟨sLpsD_s a t bp l cp H K N X j,sLpsD_m a t bp l cp H K N X,c0,ch0⟩ (fun e s=>e= .normal∧∃(k1:Nat) (j:Nat→Value) (c:Prop) (ch:List (Option Value)),((X ++ [77]).length≤k1)∧s=⟨sLpsE_s a t bp l cp H K N X k1 j,sLpsE_m a t bp l cp H K N X k1,c,ch⟩) 1:=by
  refine(sLps2p_r a t bp l cp H K N X j hH hK hN hb hX hl hXl hXb   (le9_c (by have h:=hb.app [((wA .u8 16 H),(22,(0,0))),((wA .u8 32 K),(27,(0,0))),((wA .u8 12 N),(28,(0,0)))];have h2:=h.1.src;rw[h.2,hX] at h2;exact h2) hXl (by omega))).mono ?_
  rintro e s ⟨rfl,k1,c,ch,hk1,hs⟩
  refine⟨rfl,k1,fun q=>s.tm.getD q undef,c,ch,hk1,?_⟩
  subst hs
  kernel_rfl
abbrev sLpsF_s (a:Array Value) (t:Tq) (bp:Option Addr) (l cp:Nat) (H K N X:List Int) (c9:Nat) (S:List Int) (j:Nat→Value):List Value:=([j 0,.slice bp l cp,j 2,j 3,.pointer (some ⟨1,0,none⟩),j 5,.pointer (some ⟨2,0,none⟩),.pointer (some ⟨3,0,none⟩),j 8,.slice (some ⟨4,0,none⟩) l c9,.pointer (some ⟨5,0,none⟩)] ++ (J j 11 48))
abbrev sLpsF_m (a:Array Value) (t:Tq) (bp:Option Addr) (l cp:Nat) (H K N X:List Int) (c9:Nat) (S:List Int):List Mb:= [(a,t),((wA .u8 16 H),(22,(0,0))),((wA .u8 32 K),(27,(0,0))),((wA .u8 12 N),(28,(0,0))),((wA .u8 c9 (X ++ [77])),(5,(0,0))),((wA .u8 16 S),(22,(0,0)))]
def sLps3p_h (i:Nat):Hn:=if i=7 then⟨24,[],[],[],[]⟩ else⟨0,[],[],[],[]⟩
def sLps3p_b (a:Array Value) (t:Tq) (bp:Option Addr) (l cp:Nat) (H K N X:List Int) (c9:Nat) (j:Nat→Value):List Value:=([j 0,.slice bp l cp,j 2,j 3,.pointer (some ⟨1,0,none⟩),j 5,.pointer (some ⟨2,0,none⟩),.pointer (some ⟨3,0,none⟩),j 8,.slice (some ⟨4,0,none⟩) l c9,.pointer (some ⟨5,0,none⟩)] ++ (J j 11 10 ++ ([.agg (wA .u8 16 H),.slice (some ⟨4,0,none⟩) l c9,.agg (wA .u8 16 (absL (dL8 (wA .u8 16 H)) [] (bOf [(a,t),((wA .u8 16 H),(22,(0,0))),((wA .u8 32 K),(27,(0,0))),((wA .u8 12 N),(28,(0,0))),((wA .u8 c9 (X ++ [77])),(5,(0,0)))] (some ⟨4,0,none⟩) l)))] ++ (J j 24 35))))
theorem sLps3p_0 (a:Array Value) (t:Tq) (bp:Option Addr) (l cp:Nat) (H K N X:List Int) (c9:Nat) (j:Nat→Value):evC (yty.enf tabQ9 1) sLps3p_h (cAt [1,1,1,0] (bdy Try.f4)) ⟨sLpsE_s a t bp l cp H K N X c9 j,sLpsE_m a t bp l cp H K N X c9,True,[]⟩=some (.normal,⟨sLps3p_b a t bp l cp H K N X c9 j,[(a,t),((wA .u8 16 H),(22,(0,0))),((wA .u8 32 K),(27,(0,0))),((wA .u8 12 N),(28,(0,0))),((wA .u8 c9 (X ++ [77])),(5,(0,0))),((wA .u8 16 (absL (dL8 (wA .u8 16 H)) [] (bOf [(a,t),((wA .u8 16 H),(22,(0,0))),((wA .u8 32 K),(27,(0,0))),((wA .u8 12 N),(28,(0,0))),((wA .u8 c9 (X ++ [77])),(5,(0,0)))] (some ⟨4,0,none⟩) l))),(22,(0,0)))],((((True∧True)∧True)∧(((wA .u8 16 H)=wA .u8 16 (dL8 (wA .u8 16 H))∧By (dL8 (wA .u8 16 H)))∧BkOk [(a,t),((wA .u8 16 H),(22,(0,0))),((wA .u8 32 K),(27,(0,0))),((wA .u8 12 N),(28,(0,0))),((wA .u8 c9 (X ++ [77])),(5,(0,0)))] (some ⟨4,0,none⟩) l c9∧l≤1000000))∧((wA .u8 16 (absL (dL8 (wA .u8 16 H)) [] (bOf [(a,t),((wA .u8 16 H),(22,(0,0))),((wA .u8 32 K),(27,(0,0))),((wA .u8 12 N),(28,(0,0))),((wA .u8 c9 (X ++ [77])),(5,(0,0)))] (some ⟨4,0,none⟩) l))).all (fun v=>v.oneCell')=true)),[]⟩):=by kernel_rfl
theorem sLps3 (a:Array Value) (t:Tq) (bp:Option Addr) (l cp:Nat) (H K N X:List Int) (c9:Nat) (j:Nat→Value) (hH:By H) (hK:By K) (hN:By N) (hb:BkOk [(a,t)] bp l cp) (hX:bOf [(a,t)] bp l=X) (hl:l≤300) (hXl:X.length=l) (hXb:By X) (hc:(X ++ [77]).length≤c9)  {c0:Prop} {ch0:List (Option Value)}:Runs Try.prog (cAt [1,1,1,0] (bdy Try.f4)) ⟨sLpsE_s a t bp l cp H K N X c9 j,sLpsE_m a t bp l cp H K N X c9,c0,ch0⟩ (fun e s=>e= .normal∧∃(j:Nat→Value) (c:Prop) (ch:List (Option Value)),((absL (dL8 (wA .u8 16 H)) [] (bOf [(a,t),((wA .u8 16 H),(22,(0,0))),((wA .u8 32 K),(27,(0,0))),((wA .u8 12 N),(28,(0,0))),((wA .u8 c9 (X ++ [77])),(5,(0,0)))] (some ⟨4,0,none⟩) l))=absL H [] X)∧s=⟨sLpsF_s a t bp l cp H K N X c9 (absL (dL8 (wA .u8 16 H)) [] (bOf [(a,t),((wA .u8 16 H),(22,(0,0))),((wA .u8 32 K),(27,(0,0))),((wA .u8 12 N),(28,(0,0))),((wA .u8 c9 (X ++ [77])),(5,(0,0)))] (some ⟨4,0,none⟩) l)) j,sLpsF_m a t bp l cp H K N X c9 (absL (dL8 (wA .u8 16 H)) [] (bOf [(a,t),((wA .u8 16 H),(22,(0,0))),((wA .u8 32 K),(27,(0,0))),((wA .u8 12 N),(28,(0,0))),((wA .u8 c9 (X ++ [77])),(5,(0,0)))] (some ⟨4,0,none⟩) l)),c,ch⟩) 1:=by
  refine(runs_ev mixed _ (sLps3p_0 a t bp l cp H K N X c9 j) ⟨⟨⟨⟨trivial,trivial⟩,trivial⟩,⟨dq hH,(lentB (N:=X) (l:=l) hXb hXl hc rfl).1,by omega⟩⟩,(wA_one _ _ _)⟩).mono ?_
  rintro e s ⟨rfl,hs⟩
  refine⟨rfl,fun q=>s.tm.getD q undef,s.c,s.ch,by rw[absL_h,(lentB (N:=X) (l:=l) hXb hXl hc rfl).2],?_⟩
  subst hs
  kernel_rfl
abbrev sLpsG_s (a:Array Value) (t:Tq) (bp:Option Addr) (l cp:Nat) (H K N X:List Int) (c9:Nat) (S:List Int) (j:Nat→Value):List Value:=([j 0,.slice bp l cp,j 2,j 3,.pointer (some ⟨1,0,none⟩),j 5,.pointer (some ⟨2,0,none⟩),.pointer (some ⟨3,0,none⟩),j 8,.slice (some ⟨4,0,none⟩) l c9,.pointer (some ⟨5,0,none⟩),.pointer (some ⟨6,0,none⟩),.pointer (some ⟨7,0,none⟩)] ++ (J j 13 46))
abbrev sLpsG_m (a:Array Value) (t:Tq) (bp:Option Addr) (l cp:Nat) (H K N X:List Int) (c9:Nat) (S:List Int):List Mb:= [(a,t),((wA .u8 16 H),(22,(0,0))),((wA .u8 32 K),(27,(0,0))),((wA .u8 12 N),(28,(0,0))),((wA .u8 c9 (X ++ [77])),(5,(0,0))),((wA .u8 16 S),(22,(0,0))),((wA .u8 16 (kyL (dL8 (wA .u8 32 K)) (dL8 (wA .u8 12 N)) 0 2)),(22,(0,0))),((wA .u8 32 (kyL (dL8 (wA .u8 32 K)) (dL8 (wA .u8 12 N)) 2 4)),(27,(0,0)))]
def sLps4p_h (i:Nat):Hn:=if i=7 then⟨24,[],[],[],[]⟩ else⟨0,[],[],[],[]⟩
def sLps4p_b (a:Array Value) (t:Tq) (bp:Option Addr) (l cp:Nat) (H K N X:List Int) (c9:Nat) (S:List Int) (j:Nat→Value):List Value:=([j 0,.slice bp l cp,j 2,j 3,.pointer (some ⟨1,0,none⟩),j 5,.pointer (some ⟨2,0,none⟩),.pointer (some ⟨3,0,none⟩),j 8,.slice (some ⟨4,0,none⟩) l c9,.pointer (some ⟨5,0,none⟩),.pointer (some ⟨6,0,none⟩),.pointer (some ⟨7,0,none⟩)] ++ (J j 13 11 ++ ([.tuple #[.agg (wA .u8 16 (kyL (dL8 (wA .u8 32 K)) (dL8 (wA .u8 12 N)) 0 2)),.agg (wA .u8 32 (kyL (dL8 (wA .u8 32 K)) (dL8 (wA .u8 12 N)) 2 4))],.agg (wA .u8 32 K),.agg (wA .u8 12 N),.tuple #[.agg (wA .u8 16 (kyL (dL8 (wA .u8 32 K)) (dL8 (wA .u8 12 N)) 0 2)),.agg (wA .u8 32 (kyL (dL8 (wA .u8 32 K)) (dL8 (wA .u8 12 N)) 2 4))],.agg (wA .u8 16 (kyL (dL8 (wA .u8 32 K)) (dL8 (wA .u8 12 N)) 0 2)),.agg (wA .u8 32 (kyL (dL8 (wA .u8 32 K)) (dL8 (wA .u8 12 N)) 2 4))] ++ (J j 30 29))))
theorem sLps4p_0 (a:Array Value) (t:Tq) (bp:Option Addr) (l cp:Nat) (H K N X:List Int) (c9:Nat) (S:List Int) (j:Nat→Value):evC (yty.enf tabQ9 1) sLps4p_h (cAt [1,1,1,1,0] (bdy Try.f4)) ⟨sLpsF_s a t bp l cp H K N X c9 S j,sLpsF_m a t bp l cp H K N X c9 S,True,[]⟩=some (.normal,⟨sLps4p_b a t bp l cp H K N X c9 S j,[(a,t),((wA .u8 16 H),(22,(0,0))),((wA .u8 32 K),(27,(0,0))),((wA .u8 12 N),(28,(0,0))),((wA .u8 c9 (X ++ [77])),(5,(0,0))),((wA .u8 16 S),(22,(0,0))),((wA .u8 16 (kyL (dL8 (wA .u8 32 K)) (dL8 (wA .u8 12 N)) 0 2)),(22,(0,0))),((wA .u8 32 (kyL (dL8 (wA .u8 32 K)) (dL8 (wA .u8 12 N)) 2 4)),(27,(0,0)))],((((((((True∧True)∧True)∧(((wA .u8 32 K)=wA .u8 32 (dL8 (wA .u8 32 K))∧By (dL8 (wA .u8 32 K)))∧((wA .u8 12 N)=wA .u8 12 (dL8 (wA .u8 12 N))∧By (dL8 (wA .u8 12 N)))))∧True)∧True)∧True)∧((wA .u8 16 (kyL (dL8 (wA .u8 32 K)) (dL8 (wA .u8 12 N)) 0 2)).all (fun v=>v.oneCell')=true))∧((wA .u8 32 (kyL (dL8 (wA .u8 32 K)) (dL8 (wA .u8 12 N)) 2 4)).all (fun v=>v.oneCell')=true)),[]⟩):=by kernel_rfl
theorem sLps4 (a:Array Value) (t:Tq) (bp:Option Addr) (l cp:Nat) (H K N X:List Int) (c9:Nat) (S:List Int) (j:Nat→Value) (hH:By H) (hK:By K) (hN:By N) (hb:BkOk [(a,t)] bp l cp) (hX:bOf [(a,t)] bp l=X) (hl:l≤300) (hXl:X.length=l) (hXb:By X) (hc:(X ++ [77]).length≤c9) (hS:S=absL H [] X)  {c0:Prop} {ch0:List (Option Value)}:Runs Try.prog (cAt [1,1,1,1,0] (bdy Try.f4)) ⟨sLpsF_s a t bp l cp H K N X c9 S j,sLpsF_m a t bp l cp H K N X c9 S,c0,ch0⟩ (fun e s=>e= .normal∧∃(j:Nat→Value) (c:Prop) (ch:List (Option Value)),s=⟨sLpsG_s a t bp l cp H K N X c9 S j,sLpsG_m a t bp l cp H K N X c9 S,c,ch⟩) 1:=by
  refine(runs_ev mixed _ (sLps4p_0 a t bp l cp H K N X c9 S j) ⟨⟨⟨⟨⟨⟨⟨⟨trivial,trivial⟩,trivial⟩,⟨dq hK,dq hN⟩⟩,trivial⟩,trivial⟩,trivial⟩,(wA_one _ _ _)⟩,(wA_one _ _ _)⟩).mono ?_
  rintro e s ⟨rfl,hs⟩
  refine⟨rfl,fun q=>s.tm.getD q undef,s.c,s.ch,?_⟩
  subst hs
  kernel_rfl
abbrev sLpsH_s (a:Array Value) (t:Tq) (bp:Option Addr) (l cp:Nat) (H K N X:List Int) (c9:Nat) (S:List Int) (j:Nat→Value):List Value:=([j 0,.slice bp l cp,j 2,j 3,.pointer (some ⟨1,0,none⟩),j 5,.pointer (some ⟨2,0,none⟩),.pointer (some ⟨3,0,none⟩),j 8,.slice (some ⟨4,0,none⟩) l c9,.pointer (some ⟨5,0,none⟩),.pointer (some ⟨6,0,none⟩),.pointer (some ⟨7,0,none⟩),.pointer (some ⟨8,0,none⟩),.pointer (some ⟨9,0,none⟩)] ++ (J j 15 44))
abbrev sLpsH_m (a:Array Value) (t:Tq) (bp:Option Addr) (l cp:Nat) (H K N X:List Int) (c9:Nat) (S:List Int):List Mb:= [(a,t),((wA .u8 16 H),(22,(0,0))),((wA .u8 32 K),(27,(0,0))),((wA .u8 12 N),(28,(0,0))),((wA .u8 c9 (X ++ [77])),(5,(0,0))),((wA .u8 16 S),(22,(0,0))),((wA .u8 16 (kyL (dL8 (wA .u8 32 K)) (dL8 (wA .u8 12 N)) 0 2)),(22,(0,0))),((wA .u8 32 (kyL (dL8 (wA .u8 32 K)) (dL8 (wA .u8 12 N)) 2 4)),(27,(0,0))),((wA .u8 16 (kyL (dL8 (wA .u8 32 K)) (dL8 (wA .u8 12 N)) 0 2)),(22,(0,0))),((wA .u8 32 (kyL (dL8 (wA .u8 32 K)) (dL8 (wA .u8 12 N)) 2 4)),(27,(0,0)))]
def sLps5p_h (i:Nat):Hn:=if i=7 then⟨24,[],[],[],[]⟩ else⟨0,[],[],[],[]⟩
def sLps5p_b (a:Array Value) (t:Tq) (bp:Option Addr) (l cp:Nat) (H K N X:List Int) (c9:Nat) (S:List Int) (j:Nat→Value):List Value:=([j 0,.slice bp l cp,j 2,j 3,.pointer (some ⟨1,0,none⟩),j 5,.pointer (some ⟨2,0,none⟩),.pointer (some ⟨3,0,none⟩),j 8,.slice (some ⟨4,0,none⟩) l c9,.pointer (some ⟨5,0,none⟩),.pointer (some ⟨6,0,none⟩),.pointer (some ⟨7,0,none⟩),.pointer (some ⟨8,0,none⟩),.pointer (some ⟨9,0,none⟩)] ++ (J j 15 15 ++ ([.tuple #[.agg (wA .u8 16 (kyL (dL8 (wA .u8 32 K)) (dL8 (wA .u8 12 N)) 0 2)),.agg (wA .u8 32 (kyL (dL8 (wA .u8 32 K)) (dL8 (wA .u8 12 N)) 2 4))],.agg (wA .u8 32 K),.agg (wA .u8 12 N),.tuple #[.agg (wA .u8 16 (kyL (dL8 (wA .u8 32 K)) (dL8 (wA .u8 12 N)) 0 2)),.agg (wA .u8 32 (kyL (dL8 (wA .u8 32 K)) (dL8 (wA .u8 12 N)) 2 4))],.agg (wA .u8 16 (kyL (dL8 (wA .u8 32 K)) (dL8 (wA .u8 12 N)) 0 2)),.agg (wA .u8 32 (kyL (dL8 (wA .u8 32 K)) (dL8 (wA .u8 12 N)) 2 4))] ++ (J j 36 23))))
theorem sLps5p_0 (a:Array Value) (t:Tq) (bp:Option Addr) (l cp:Nat) (H K N X:List Int) (c9:Nat) (S:List Int) (j:Nat→Value):evC (yty.enf tabQ9 1) sLps5p_h (cAt [1,1,1,1,1,0] (bdy Try.f4)) ⟨sLpsG_s a t bp l cp H K N X c9 S j,sLpsG_m a t bp l cp H K N X c9 S,True,[]⟩=some (.normal,⟨sLps5p_b a t bp l cp H K N X c9 S j,[(a,t),((wA .u8 16 H),(22,(0,0))),((wA .u8 32 K),(27,(0,0))),((wA .u8 12 N),(28,(0,0))),((wA .u8 c9 (X ++ [77])),(5,(0,0))),((wA .u8 16 S),(22,(0,0))),((wA .u8 16 (kyL (dL8 (wA .u8 32 K)) (dL8 (wA .u8 12 N)) 0 2)),(22,(0,0))),((wA .u8 32 (kyL (dL8 (wA .u8 32 K)) (dL8 (wA .u8 12 N)) 2 4)),(27,(0,0))),((wA .u8 16 (kyL (dL8 (wA .u8 32 K)) (dL8 (wA .u8 12 N)) 0 2)),(22,(0,0))),((wA .u8 32 (kyL (dL8 (wA .u8 32 K)) (dL8 (wA .u8 12 N)) 2 4)),(27,(0,0)))],((((((((True∧True)∧True)∧(((wA .u8 32 K)=wA .u8 32 (dL8 (wA .u8 32 K))∧By (dL8 (wA .u8 32 K)))∧((wA .u8 12 N)=wA .u8 12 (dL8 (wA .u8 12 N))∧By (dL8 (wA .u8 12 N)))))∧True)∧True)∧True)∧((wA .u8 16 (kyL (dL8 (wA .u8 32 K)) (dL8 (wA .u8 12 N)) 0 2)).all (fun v=>v.oneCell')=true))∧((wA .u8 32 (kyL (dL8 (wA .u8 32 K)) (dL8 (wA .u8 12 N)) 2 4)).all (fun v=>v.oneCell')=true)),[]⟩):=by kernel_rfl
theorem sLps5 (a:Array Value) (t:Tq) (bp:Option Addr) (l cp:Nat) (H K N X:List Int) (c9:Nat) (S:List Int) (j:Nat→Value) (hH:By H) (hK:By K) (hN:By N) (hb:BkOk [(a,t)] bp l cp) (hX:bOf [(a,t)] bp l=X) (hl:l≤300) (hXl:X.length=l) (hXb:By X) (hc:(X ++ [77]).length≤c9) (hS:S=absL H [] X)  {c0:Prop} {ch0:List (Option Value)}:Runs Try.prog (cAt [1,1,1,1,1,0] (bdy Try.f4)) ⟨sLpsG_s a t bp l cp H K N X c9 S j,sLpsG_m a t bp l cp H K N X c9 S,c0,ch0⟩ (fun e s=>e= .normal∧∃(j:Nat→Value) (c:Prop) (ch:List (Option Value)),s=⟨sLpsH_s a t bp l cp H K N X c9 S j,sLpsH_m a t bp l cp H K N X c9 S,c,ch⟩) 1:=by
  refine(runs_ev mixed _ (sLps5p_0 a t bp l cp H K N X c9 S j) ⟨⟨⟨⟨⟨⟨⟨⟨trivial,trivial⟩,trivial⟩,⟨dq hK,dq hN⟩⟩,trivial⟩,trivial⟩,trivial⟩,(wA_one _ _ _)⟩,(wA_one _ _ _)⟩).mono ?_
  rintro e s ⟨rfl,hs⟩
  refine⟨rfl,fun q=>s.tm.getD q undef,s.c,s.ch,?_⟩
  subst hs
  kernel_rfl
abbrev sLpsI_s (a:Array Value) (t:Tq) (bp:Option Addr) (l cp:Nat) (H K N X:List Int) (c9:Nat) (S:List Int) (j:Nat→Value):List Value:=(J j 0 8 ++ ([.bool true] ++ (J j 9 50)))
abbrev sLpsI_m (a:Array Value) (t:Tq) (bp:Option Addr) (l cp:Nat) (H K N X:List Int) (c9:Nat) (S:List Int):List Mb:= [(a,t),((wA .u8 16 H),(22,(0,0))),((wA .u8 32 K),(27,(0,0))),((wA .u8 12 N),(28,(0,0))),((wA .u8 c9 (X ++ [77])),(5,(0,0))),((wA .u8 16 S),(22,(0,0))),((wA .u8 16 (kyL (dL8 (wA .u8 32 K)) (dL8 (wA .u8 12 N)) 0 2)),(22,(0,0))),((wA .u8 32 (kyL (dL8 (wA .u8 32 K)) (dL8 (wA .u8 12 N)) 2 4)),(27,(0,0))),((wA .u8 16 (kyL (dL8 (wA .u8 32 K)) (dL8 (wA .u8 12 N)) 0 2)),(22,(0,0))),((wA .u8 32 (kyL (dL8 (wA .u8 32 K)) (dL8 (wA .u8 12 N)) 2 4)),(27,(0,0)))]
def sLps6p_h (i:Nat):Hn:=if i=7 then⟨24,[],[],[],[]⟩ else⟨0,[],[],[],[]⟩
def sLps6p_b (a:Array Value) (t:Tq) (bp:Option Addr) (l cp:Nat) (H K N X:List Int) (c9:Nat) (S:List Int) (j:Nat→Value):List Value:=([j 0,.slice bp l cp,j 2,j 3,.pointer (some ⟨1,0,none⟩),j 5,.pointer (some ⟨2,0,none⟩),.pointer (some ⟨3,0,none⟩),.bool true,.slice (some ⟨4,0,none⟩) l c9,.pointer (some ⟨5,0,none⟩),.pointer (some ⟨6,0,none⟩),.pointer (some ⟨7,0,none⟩),.pointer (some ⟨8,0,none⟩),.pointer (some ⟨9,0,none⟩)] ++ (J j 15 21 ++ ([.slice (some ⟨4,0,none⟩) l c9,.slice bp l cp,.bool true,.bool true,.agg (wA .u8 16 S),.agg (wA .u8 16 H),.slice bp l cp,.agg (wA .u8 16 (absL (dL8 (wA .u8 16 H)) [] (bOf [(a,t),((wA .u8 16 H),(22,(0,0))),((wA .u8 32 K),(27,(0,0))),((wA .u8 12 N),(28,(0,0))),((wA .u8 c9 (X ++ [77])),(5,(0,0))),((wA .u8 16 S),(22,(0,0))),((wA .u8 16 (kyL (dL8 (wA .u8 32 K)) (dL8 (wA .u8 12 N)) 0 2)),(22,(0,0))),((wA .u8 32 (kyL (dL8 (wA .u8 32 K)) (dL8 (wA .u8 12 N)) 2 4)),(27,(0,0))),((wA .u8 16 (kyL (dL8 (wA .u8 32 K)) (dL8 (wA .u8 12 N)) 0 2)),(22,(0,0))),((wA .u8 32 (kyL (dL8 (wA .u8 32 K)) (dL8 (wA .u8 12 N)) 2 4)),(27,(0,0)))] bp l))),.bool true,.bool true,.bool true,.agg (wA .u8 16 (kyL (dL8 (wA .u8 32 K)) (dL8 (wA .u8 12 N)) 0 2)),.agg (wA .u8 16 (kyL (dL8 (wA .u8 32 K)) (dL8 (wA .u8 12 N)) 0 2)),.bool true,.bool true,.bool true,.agg (wA .u8 32 (kyL (dL8 (wA .u8 32 K)) (dL8 (wA .u8 12 N)) 2 4)),.agg (wA .u8 32 (kyL (dL8 (wA .u8 32 K)) (dL8 (wA .u8 12 N)) 2 4)),.bool true,.bool true,.bool true,.bool true,.bool true])))
theorem sLps6p_0 (a:Array Value) (t:Tq) (bp:Option Addr) (l cp:Nat) (H K N X:List Int) (c9:Nat) (S:List Int) (j:Nat→Value):evC (yty.enf tabQ9 1) sLps6p_h (cAt [1,1,1,1,1,1] (bdy Try.f4)) ⟨sLpsH_s a t bp l cp H K N X c9 S j,sLpsH_m a t bp l cp H K N X c9 S,True,[none,some (.bool true),some (.bool true),some (.bool true)]⟩=some (.ret,⟨sLps6p_b a t bp l cp H K N X c9 S j,[(a,t),((wA .u8 16 H),(22,(0,0))),((wA .u8 32 K),(27,(0,0))),((wA .u8 12 N),(28,(0,0))),((wA .u8 c9 (X ++ [77])),(5,(0,0))),((wA .u8 16 S),(22,(0,0))),((wA .u8 16 (kyL (dL8 (wA .u8 32 K)) (dL8 (wA .u8 12 N)) 0 2)),(22,(0,0))),((wA .u8 32 (kyL (dL8 (wA .u8 32 K)) (dL8 (wA .u8 12 N)) 2 4)),(27,(0,0))),((wA .u8 16 (kyL (dL8 (wA .u8 32 K)) (dL8 (wA .u8 12 N)) 0 2)),(22,(0,0))),((wA .u8 32 (kyL (dL8 (wA .u8 32 K)) (dL8 (wA .u8 12 N)) 2 4)),(27,(0,0)))],((((((((((((((((((((((((True∧True)∧True)∧((wA .u8 c9 (X ++ [77]))=wA .u8 c9 (bOf [(a,t),((wA .u8 16 H),(22,(0,0))),((wA .u8 32 K),(27,(0,0))),((wA .u8 12 N),(28,(0,0))),((wA .u8 c9 (X ++ [77])),(5,(0,0))),((wA .u8 16 S),(22,(0,0))),((wA .u8 16 (kyL (dL8 (wA .u8 32 K)) (dL8 (wA .u8 12 N)) 0 2)),(22,(0,0))),((wA .u8 32 (kyL (dL8 (wA .u8 32 K)) (dL8 (wA .u8 12 N)) 2 4)),(27,(0,0))),((wA .u8 16 (kyL (dL8 (wA .u8 32 K)) (dL8 (wA .u8 12 N)) 0 2)),(22,(0,0))),((wA .u8 32 (kyL (dL8 (wA .u8 32 K)) (dL8 (wA .u8 12 N)) 2 4)),(27,(0,0)))] bp l ++ [77])∧l=l∧BkOk [(a,t),((wA .u8 16 H),(22,(0,0))),((wA .u8 32 K),(27,(0,0))),((wA .u8 12 N),(28,(0,0))),((wA .u8 c9 (X ++ [77])),(5,(0,0))),((wA .u8 16 S),(22,(0,0))),((wA .u8 16 (kyL (dL8 (wA .u8 32 K)) (dL8 (wA .u8 12 N)) 0 2)),(22,(0,0))),((wA .u8 32 (kyL (dL8 (wA .u8 32 K)) (dL8 (wA .u8 12 N)) 2 4)),(27,(0,0))),((wA .u8 16 (kyL (dL8 (wA .u8 32 K)) (dL8 (wA .u8 12 N)) 0 2)),(22,(0,0))),((wA .u8 32 (kyL (dL8 (wA .u8 32 K)) (dL8 (wA .u8 12 N)) 2 4)),(27,(0,0)))] bp l cp∧l≤100000000∧l+1≤c9))∧True)∧True)∧True)∧True)∧(((wA .u8 16 H)=wA .u8 16 (dL8 (wA .u8 16 H))∧By (dL8 (wA .u8 16 H)))∧BkOk [(a,t),((wA .u8 16 H),(22,(0,0))),((wA .u8 32 K),(27,(0,0))),((wA .u8 12 N),(28,(0,0))),((wA .u8 c9 (X ++ [77])),(5,(0,0))),((wA .u8 16 S),(22,(0,0))),((wA .u8 16 (kyL (dL8 (wA .u8 32 K)) (dL8 (wA .u8 12 N)) 0 2)),(22,(0,0))),((wA .u8 32 (kyL (dL8 (wA .u8 32 K)) (dL8 (wA .u8 12 N)) 2 4)),(27,(0,0))),((wA .u8 16 (kyL (dL8 (wA .u8 32 K)) (dL8 (wA .u8 12 N)) 0 2)),(22,(0,0))),((wA .u8 32 (kyL (dL8 (wA .u8 32 K)) (dL8 (wA .u8 12 N)) 2 4)),(27,(0,0)))] bp l cp∧l≤1000000))∧((isBL 16 (wA .u8 16 S)∧isBL 16 (wA .u8 16 (absL (dL8 (wA .u8 16 H)) [] (bOf [(a,t),((wA .u8 16 H),(22,(0,0))),((wA .u8 32 K),(27,(0,0))),((wA .u8 12 N),(28,(0,0))),((wA .u8 c9 (X ++ [77])),(5,(0,0))),((wA .u8 16 S),(22,(0,0))),((wA .u8 16 (kyL (dL8 (wA .u8 32 K)) (dL8 (wA .u8 12 N)) 0 2)),(22,(0,0))),((wA .u8 32 (kyL (dL8 (wA .u8 32 K)) (dL8 (wA .u8 12 N)) 2 4)),(27,(0,0))),((wA .u8 16 (kyL (dL8 (wA .u8 32 K)) (dL8 (wA .u8 12 N)) 0 2)),(22,(0,0))),((wA .u8 32 (kyL (dL8 (wA .u8 32 K)) (dL8 (wA .u8 12 N)) 2 4)),(27,(0,0)))] bp l))))∧(intsOf (wA .u8 16 S) == intsOf (wA .u8 16 (absL (dL8 (wA .u8 16 H)) [] (bOf [(a,t),((wA .u8 16 H),(22,(0,0))),((wA .u8 32 K),(27,(0,0))),((wA .u8 12 N),(28,(0,0))),((wA .u8 c9 (X ++ [77])),(5,(0,0))),((wA .u8 16 S),(22,(0,0))),((wA .u8 16 (kyL (dL8 (wA .u8 32 K)) (dL8 (wA .u8 12 N)) 0 2)),(22,(0,0))),((wA .u8 32 (kyL (dL8 (wA .u8 32 K)) (dL8 (wA .u8 12 N)) 2 4)),(27,(0,0))),((wA .u8 16 (kyL (dL8 (wA .u8 32 K)) (dL8 (wA .u8 12 N)) 0 2)),(22,(0,0))),((wA .u8 32 (kyL (dL8 (wA .u8 32 K)) (dL8 (wA .u8 12 N)) 2 4)),(27,(0,0)))] bp l))))=true))∧True)∧True)∧True)∧True)∧((isBL 16 (wA .u8 16 (kyL (dL8 (wA .u8 32 K)) (dL8 (wA .u8 12 N)) 0 2))∧isBL 16 (wA .u8 16 (kyL (dL8 (wA .u8 32 K)) (dL8 (wA .u8 12 N)) 0 2)))∧(intsOf (wA .u8 16 (kyL (dL8 (wA .u8 32 K)) (dL8 (wA .u8 12 N)) 0 2)) == intsOf (wA .u8 16 (kyL (dL8 (wA .u8 32 K)) (dL8 (wA .u8 12 N)) 0 2)))=true))∧True)∧True)∧True)∧True)∧((byD.is (wA .u8 32 (kyL (dL8 (wA .u8 32 K)) (dL8 (wA .u8 12 N)) 2 4))∧byD.is (wA .u8 32 (kyL (dL8 (wA .u8 32 K)) (dL8 (wA .u8 12 N)) 2 4)))∧(decide (db (wA .u8 32 (kyL (dL8 (wA .u8 32 K)) (dL8 (wA .u8 12 N)) 2 4))=db (wA .u8 32 (kyL (dL8 (wA .u8 32 K)) (dL8 (wA .u8 12 N)) 2 4))))=true))∧True)∧True)∧True)∧True)∧True),[]⟩):=by kernel_rfl
theorem sLps6 (a:Array Value) (t:Tq) (bp:Option Addr) (l cp:Nat) (H K N X:List Int) (c9:Nat) (S:List Int) (j:Nat→Value) (hH:By H) (hK:By K) (hN:By N) (hb:BkOk [(a,t)] bp l cp) (hX:bOf [(a,t)] bp l=X) (hl:l≤300) (hXl:X.length=l) (hXb:By X) (hc:(X ++ [77]).length≤c9) (hS:S=absL H [] X)  {c0:Prop} {ch0:List (Option Value)}:Runs Try.prog (cAt [1,1,1,1,1,1] (bdy Try.f4)) ⟨sLpsH_s a t bp l cp H K N X c9 S j,sLpsH_m a t bp l cp H K N X c9 S,c0,ch0⟩ (fun e s=>e= .ret∧∃(j:Nat→Value) (c:Prop) (ch:List (Option Value)),s=⟨sLpsI_s a t bp l cp H K N X c9 S j,sLpsI_m a t bp l cp H K N X c9 S,c,ch⟩) 1:=by
  have h1:(intsOf (wA .u8 16 S) == intsOf (wA .u8 16 (absL (dL8 (wA .u8 16 H)) [] (bOf [(a,t),((wA .u8 16 H),(22,(0,0))),((wA .u8 32 K),(27,(0,0))),((wA .u8 12 N),(28,(0,0))),((wA .u8 c9 (X ++ [77])),(5,(0,0))),((wA .u8 16 S),(22,(0,0))),((wA .u8 16 (kyL (dL8 (wA .u8 32 K)) (dL8 (wA .u8 12 N)) 0 2)),(22,(0,0))),((wA .u8 32 (kyL (dL8 (wA .u8 32 K)) (dL8 (wA .u8 12 N)) 2 4)),(27,(0,0))),((wA .u8 16 (kyL (dL8 (wA .u8 32 K)) (dL8 (wA .u8 12 N)) 0 2)),(22,(0,0))),((wA .u8 32 (kyL (dL8 (wA .u8 32 K)) (dL8 (wA .u8 12 N)) 2 4)),(27,(0,0)))] bp l))))=true:=(by rw[absL_h,show bOf [(a,t),((wA .u8 16 H),(22,(0,0))),((wA .u8 32 K),(27,(0,0))),((wA .u8 12 N),(28,(0,0))),((wA .u8 c9 (X ++ [77])),(5,(0,0))),((wA .u8 16 S),(22,(0,0))),((wA .u8 16 (kyL (dL8 (wA .u8 32 K)) (dL8 (wA .u8 12 N)) 0 2)),(22,(0,0))),((wA .u8 32 (kyL (dL8 (wA .u8 32 K)) (dL8 (wA .u8 12 N)) 2 4)),(27,(0,0))),((wA .u8 16 (kyL (dL8 (wA .u8 32 K)) (dL8 (wA .u8 12 N)) 0 2)),(22,(0,0))),((wA .u8 32 (kyL (dL8 (wA .u8 32 K)) (dL8 (wA .u8 12 N)) 2 4)),(27,(0,0)))] bp l=X from(hb.app [((wA .u8 16 H),(22,(0,0))),((wA .u8 32 K),(27,(0,0))),((wA .u8 12 N),(28,(0,0))),((wA .u8 c9 (X ++ [77])),(5,(0,0))),((wA .u8 16 S),(22,(0,0))),((wA .u8 16 (kyL (dL8 (wA .u8 32 K)) (dL8 (wA .u8 12 N)) 0 2)),(22,(0,0))),((wA .u8 32 (kyL (dL8 (wA .u8 32 K)) (dL8 (wA .u8 12 N)) 2 4)),(27,(0,0))),((wA .u8 16 (kyL (dL8 (wA .u8 32 K)) (dL8 (wA .u8 12 N)) 0 2)),(22,(0,0))),((wA .u8 32 (kyL (dL8 (wA .u8 32 K)) (dL8 (wA .u8 12 N)) 2 4)),(27,(0,0)))]).2.trans hX,hS];exact beq_self_eq_true _)
  have h2:(intsOf (wA .u8 16 (kyL (dL8 (wA .u8 32 K)) (dL8 (wA .u8 12 N)) 0 2)) == intsOf (wA .u8 16 (kyL (dL8 (wA .u8 32 K)) (dL8 (wA .u8 12 N)) 0 2)))=true:=(beq_self_eq_true _)
  have h3:(decide (db (wA .u8 32 (kyL (dL8 (wA .u8 32 K)) (dL8 (wA .u8 12 N)) 2 4))=db (wA .u8 32 (kyL (dL8 (wA .u8 32 K)) (dL8 (wA .u8 12 N)) 2 4))))=true:=(decide_eq_true rfl)
  refine(runs_ev mixed _ (sLps6p_0 a t bp l cp H K N X c9 S j) ⟨⟨⟨⟨⟨⟨⟨⟨⟨⟨⟨⟨⟨⟨⟨⟨⟨⟨⟨⟨⟨⟨⟨⟨trivial,trivial⟩,trivial⟩,⟨by rw[show bOf [(a,t),((wA .u8 16 H),(22,(0,0))),((wA .u8 32 K),(27,(0,0))),((wA .u8 12 N),(28,(0,0))),((wA .u8 c9 (X ++ [77])),(5,(0,0))),((wA .u8 16 S),(22,(0,0))),((wA .u8 16 (kyL (dL8 (wA .u8 32 K)) (dL8 (wA .u8 12 N)) 0 2)),(22,(0,0))),((wA .u8 32 (kyL (dL8 (wA .u8 32 K)) (dL8 (wA .u8 12 N)) 2 4)),(27,(0,0))),((wA .u8 16 (kyL (dL8 (wA .u8 32 K)) (dL8 (wA .u8 12 N)) 0 2)),(22,(0,0))),((wA .u8 32 (kyL (dL8 (wA .u8 32 K)) (dL8 (wA .u8 12 N)) 2 4)),(27,(0,0)))] bp l=X from(hb.app [((wA .u8 16 H),(22,(0,0))),((wA .u8 32 K),(27,(0,0))),((wA .u8 12 N),(28,(0,0))),((wA .u8 c9 (X ++ [77])),(5,(0,0))),((wA .u8 16 S),(22,(0,0))),((wA .u8 16 (kyL (dL8 (wA .u8 32 K)) (dL8 (wA .u8 12 N)) 0 2)),(22,(0,0))),((wA .u8 32 (kyL (dL8 (wA .u8 32 K)) (dL8 (wA .u8 12 N)) 2 4)),(27,(0,0))),((wA .u8 16 (kyL (dL8 (wA .u8 32 K)) (dL8 (wA .u8 12 N)) 0 2)),(22,(0,0))),((wA .u8 32 (kyL (dL8 (wA .u8 32 K)) (dL8 (wA .u8 12 N)) 2 4)),(27,(0,0)))]).2.trans hX],rfl,(hb.app [((wA .u8 16 H),(22,(0,0))),((wA .u8 32 K),(27,(0,0))),((wA .u8 12 N),(28,(0,0))),((wA .u8 c9 (X ++ [77])),(5,(0,0))),((wA .u8 16 S),(22,(0,0))),((wA .u8 16 (kyL (dL8 (wA .u8 32 K)) (dL8 (wA .u8 12 N)) 0 2)),(22,(0,0))),((wA .u8 32 (kyL (dL8 (wA .u8 32 K)) (dL8 (wA .u8 12 N)) 2 4)),(27,(0,0))),((wA .u8 16 (kyL (dL8 (wA .u8 32 K)) (dL8 (wA .u8 12 N)) 0 2)),(22,(0,0))),((wA .u8 32 (kyL (dL8 (wA .u8 32 K)) (dL8 (wA .u8 12 N)) 2 4)),(27,(0,0)))]).1,by omega,by have:=hc;simp only[List.length_append,List.length_cons,List.length_nil] at this;omega⟩⟩,trivial⟩,trivial⟩,trivial⟩,trivial⟩,⟨dq hH,(hb.app [((wA .u8 16 H),(22,(0,0))),((wA .u8 32 K),(27,(0,0))),((wA .u8 12 N),(28,(0,0))),((wA .u8 c9 (X ++ [77])),(5,(0,0))),((wA .u8 16 S),(22,(0,0))),((wA .u8 16 (kyL (dL8 (wA .u8 32 K)) (dL8 (wA .u8 12 N)) 0 2)),(22,(0,0))),((wA .u8 32 (kyL (dL8 (wA .u8 32 K)) (dL8 (wA .u8 12 N)) 2 4)),(27,(0,0))),((wA .u8 16 (kyL (dL8 (wA .u8 32 K)) (dL8 (wA .u8 12 N)) 0 2)),(22,(0,0))),((wA .u8 32 (kyL (dL8 (wA .u8 32 K)) (dL8 (wA .u8 12 N)) 2 4)),(27,(0,0)))]).1,by omega⟩⟩,⟨⟨isBL_w _ _,isBL_w _ _⟩,h1⟩⟩,trivial⟩,trivial⟩,trivial⟩,trivial⟩,⟨⟨isBL_w _ _,isBL_w _ _⟩,h2⟩⟩,trivial⟩,trivial⟩,trivial⟩,trivial⟩,⟨⟨by_is (kyL_by _ _ _ _),by_is (kyL_by _ _ _ _)⟩,h3⟩⟩,trivial⟩,trivial⟩,trivial⟩,trivial⟩,trivial⟩).mono ?_
  rintro e s ⟨rfl,hs⟩
  refine⟨rfl,fun q=>s.tm.getD q undef,s.c,s.ch,?_⟩
  subst hs
  kernel_rfl
theorem sLpsu (a:Array Value) (t:Tq) (bp:Option Addr) (l cp:Nat) (H K N X:List Int) (j:Nat→Value) (hH:By H) (hK:By K) (hN:By N) (hb:BkOk [(a,t)] bp l cp) (hX:bOf [(a,t)] bp l=X) (hl:l≤300) (hXl:X.length=l) (hXb:By X)  {c0:Prop} {ch0:List (Option Value)}:Runs Try.prog (cAt [] (bdy Try.f4)) ⟨sLpsC_s a t bp l cp H K N X j,sLpsC_m a t bp l cp H K N X,c0,ch0⟩ (fun e s=>e= .ret∧∃(k12:Nat) (j:Nat→Value) (c:Prop) (ch:List (Option Value)),s=⟨sLpsI_s a t bp l cp H K N X k12 (absL (dL8 (wA .u8 16 H)) [] (bOf [(a,t),((wA .u8 16 H),(22,(0,0))),((wA .u8 32 K),(27,(0,0))),((wA .u8 12 N),(28,(0,0))),((wA .u8 k12 (X ++ [77])),(5,(0,0)))] (some ⟨4,0,none⟩) l)) j,sLpsI_m a t bp l cp H K N X k12 (absL (dL8 (wA .u8 16 H)) [] (bOf [(a,t),((wA .u8 16 H),(22,(0,0))),((wA .u8 32 K),(27,(0,0))),((wA .u8 12 N),(28,(0,0))),((wA .u8 k12 (X ++ [77])),(5,(0,0)))] (some ⟨4,0,none⟩) l)),c,ch⟩) 1:=by
  rw[show(cAt [] (bdy Try.f4))=(.seq (cAt [0] (bdy Try.f4)) (.seq (cAt [1,0] (bdy Try.f4)) (.seq (cAt [1,1,0] (bdy Try.f4)) (.seq (cAt [1,1,1,0] (bdy Try.f4)) (.seq (cAt [1,1,1,1,0] (bdy Try.f4)) (.seq (cAt [1,1,1,1,1,0] (bdy Try.f4)) (cAt [1,1,1,1,1,1] (bdy Try.f4)))))))) from by kernel_rfl]
  refine runs_seq (sLps0 a t bp l cp H K N X j hH hK hN hb hX hl hXl hXb ) (fun s hh=> ?_) (fun e s hne hh=>absurd hh.1 hne)
  obtain⟨_,j,c,ch,rfl⟩:=hh
  refine runs_seq (sLps1 a t bp l cp H K N X j hH hK hN hb hX hl hXl hXb ) (fun s hh=> ?_) (fun e s hne hh=>absurd hh.1 hne)
  obtain⟨_,j,c,ch,rfl⟩:=hh
  refine runs_seq (sLps2 a t bp l cp H K N X j hH hK hN hb hX hl hXl hXb ) (fun s hh=> ?_) (fun e s hne hh=>absurd hh.1 hne)
  obtain⟨_,k12,j,c,ch,f2_8,rfl⟩:=hh
  refine runs_seq (sLps3 a t bp l cp H K N X k12 j hH hK hN hb hX hl hXl hXb f2_8 ) (fun s hh=> ?_) (fun e s hne hh=>absurd hh.1 hne)
  obtain⟨_,j,c,ch,f3_9,rfl⟩:=hh
  refine runs_seq (sLps4 a t bp l cp H K N X k12 (absL (dL8 (wA .u8 16 H)) [] (bOf [(a,t),((wA .u8 16 H),(22,(0,0))),((wA .u8 32 K),(27,(0,0))),((wA .u8 12 N),(28,(0,0))),((wA .u8 k12 (X ++ [77])),(5,(0,0)))] (some ⟨4,0,none⟩) l)) j hH hK hN hb hX hl hXl hXb f2_8 f3_9 ) (fun s hh=> ?_) (fun e s hne hh=>absurd hh.1 hne)
  obtain⟨_,j,c,ch,rfl⟩:=hh
  refine runs_seq (sLps5 a t bp l cp H K N X k12 (absL (dL8 (wA .u8 16 H)) [] (bOf [(a,t),((wA .u8 16 H),(22,(0,0))),((wA .u8 32 K),(27,(0,0))),((wA .u8 12 N),(28,(0,0))),((wA .u8 k12 (X ++ [77])),(5,(0,0)))] (some ⟨4,0,none⟩) l)) j hH hK hN hb hX hl hXl hXb f2_8 f3_9 ) (fun s hh=> ?_) (fun e s hne hh=>absurd hh.1 hne)
  obtain⟨_,j,c,ch,rfl⟩:=hh
  refine(sLps6 a t bp l cp H K N X k12 (absL (dL8 (wA .u8 16 H)) [] (bOf [(a,t),((wA .u8 16 H),(22,(0,0))),((wA .u8 32 K),(27,(0,0))),((wA .u8 12 N),(28,(0,0))),((wA .u8 k12 (X ++ [77])),(5,(0,0)))] (some ⟨4,0,none⟩) l)) j hH hK hN hb hX hl hXl hXb f2_8 f3_9 ).mono ?_
  rintro e s ⟨rfl,j,c,ch,rfl⟩
  exact⟨rfl,k12,j,c,ch,rfl⟩
abbrev sLpnC_s (H K N:List Int) (j:Nat→Value):List Value:=([.agg (wA .u8 16 H),.slice none 0 0,.agg (wA .u8 32 K),.agg (wA .u8 12 N)] ++ (JU 55))
abbrev sLpnC_m (H K N:List Int):List Mb:= []
abbrev sLpnD_s (H K N:List Int) (j:Nat→Value):List Value:=([j 0,.slice none 0 0,j 2,j 3,.pointer (some ⟨0,0,none⟩),j 5,.pointer (some ⟨1,0,none⟩),.pointer (some ⟨2,0,none⟩)] ++ (J j 8 51))
abbrev sLpnD_m (H K N:List Int):List Mb:= [((wA .u8 16 H),(22,(0,0))),((wA .u8 32 K),(27,(0,0))),((wA .u8 12 N),(28,(0,0)))]
def sLpn0p_h (i:Nat):Hn:=if i=7 then⟨24,[],[],[],[]⟩ else⟨0,[],[],[],[]⟩
def sLpn0p_b (H K N:List Int) (j:Nat→Value):List Value:=([.agg (wA .u8 16 H),.slice none 0 0,.agg (wA .u8 32 K),.agg (wA .u8 12 N),.pointer (some ⟨0,0,none⟩),undef,.pointer (some ⟨1,0,none⟩),.pointer (some ⟨2,0,none⟩),.bool false] ++ (JU 50))
theorem sLpn0p_0 (H K N:List Int) (j:Nat→Value):evC (yty.en tabQ9) sLpn0p_h (cAt [0] (bdy Try.f4)) ⟨sLpnC_s H K N j,sLpnC_m H K N,True,[]⟩=some (.normal,⟨sLpn0p_b H K N j,[((wA .u8 16 H),(22,(0,0))),((wA .u8 32 K),(27,(0,0))),((wA .u8 12 N),(28,(0,0)))],(True∧True),[]⟩):=by kernel_rfl
theorem sLpn0 (H K N:List Int) (j:Nat→Value) (hH:By H) (hK:By K) (hN:By N)  {c0:Prop} {ch0:List (Option Value)}:Runs Try.prog (cAt [0] (bdy Try.f4)) ⟨sLpnC_s H K N j,sLpnC_m H K N,c0,ch0⟩ (fun e s=>e= .normal∧∃(j:Nat→Value) (c:Prop) (ch:List (Option Value)),s=⟨sLpnD_s H K N j,sLpnD_m H K N,c,ch⟩) 0:=by
  refine(runs_ev mixed _ (sLpn0p_0 H K N j) ⟨trivial,trivial⟩).mono ?_
  rintro e s ⟨rfl,hs⟩
  refine⟨rfl,fun q=>s.tm.getD q undef,s.c,s.ch,?_⟩
  subst hs
  kernel_rfl
def sLpn1p_h (i:Nat):Hn:=if i=7 then⟨24,[],[],[],[]⟩ else⟨0,[],[],[],[]⟩
def sLpn1p_b (H K N:List Int) (j:Nat→Value):List Value:=([j 0,.slice none 0 0,j 2,j 3,.pointer (some ⟨0,0,none⟩),j 5,.pointer (some ⟨1,0,none⟩),.pointer (some ⟨2,0,none⟩)] ++ (J j 8 7 ++ ([.slice none 0 0,.int .i64 0,.bool false] ++ (J j 18 41))))
theorem sLpn1p_0 (H K N:List Int) (j:Nat→Value):evC (yty.en tabQ9) sLpn1p_h (cAt [1,0] (bdy Try.f4)) ⟨sLpnD_s H K N j,sLpnD_m H K N,True,[]⟩=some (.normal,⟨sLpn1p_b H K N j,[((wA .u8 16 H),(22,(0,0))),((wA .u8 32 K),(27,(0,0))),((wA .u8 12 N),(28,(0,0)))],(((True∧True)∧True)∧True),[]⟩):=by kernel_rfl
theorem sLpn1 (H K N:List Int) (j:Nat→Value) (hH:By H) (hK:By K) (hN:By N)  {c0:Prop} {ch0:List (Option Value)}:Runs Try.prog (cAt [1,0] (bdy Try.f4)) ⟨sLpnD_s H K N j,sLpnD_m H K N,c0,ch0⟩ (fun e s=>e= .normal∧∃(j:Nat→Value) (c:Prop) (ch:List (Option Value)),s=⟨sLpnD_s H K N j,sLpnD_m H K N,c,ch⟩) 0:=by
  refine(runs_ev mixed _ (sLpn1p_0 H K N j) ⟨⟨⟨trivial,trivial⟩,trivial⟩,trivial⟩).mono ?_
  rintro e s ⟨rfl,hs⟩
  refine⟨rfl,fun q=>s.tm.getD q undef,s.c,s.ch,?_⟩
  subst hs
  kernel_rfl
abbrev sLpnE_s (H K N:List Int) (c9:Nat) (j:Nat→Value):List Value:=([j 0,.slice none 0 0,j 2,j 3,.pointer (some ⟨0,0,none⟩),j 5,.pointer (some ⟨1,0,none⟩),.pointer (some ⟨2,0,none⟩),j 8,.slice (some ⟨3,0,none⟩) 0 c9] ++ (J j 10 49))
abbrev sLpnE_m (H K N:List Int) (c9:Nat):List Mb:= [((wA .u8 16 H),(22,(0,0))),((wA .u8 32 K),(27,(0,0))),((wA .u8 12 N),(28,(0,0))),((wA .u8 c9 (([]:List Int) ++ [77])),(5,(0,0)))]
def sLpn2p_m (H K N:List Int) (j:Nat→Value):List Value:=([j 0,.slice none 0 0,j 2,j 3,.pointer (some ⟨0,0,none⟩),j 5,.pointer (some ⟨1,0,none⟩),.pointer (some ⟨2,0,none⟩)] ++ (J j 8 11 ++ ([.slice none 0 0] ++ (J j 20 39))))
def sLpn2p_b (H K N:List Int) (j:Nat→Value) (k1:Nat):List Value:=([j 0,.slice none 0 0,j 2,j 3,.pointer (some ⟨0,0,none⟩),j 5,.pointer (some ⟨1,0,none⟩),.pointer (some ⟨2,0,none⟩),j 8,.slice (some ⟨3,0,none⟩) 0 k1] ++ (J j 10 9 ++ ([.slice none 0 0,.slice (some ⟨3,0,none⟩) 0 k1] ++ (J j 21 38))))
theorem sLpn2p_1 (H K N:List Int) (j:Nat→Value):evL (yty.enf tabQ9 0) (oT (cAt [1,1,0] (bdy Try.f4))) ((oT (cAt [1,1,0] (bdy Try.f4))).toList.take 1) ⟨sLpnD_s H K N j,sLpnD_m H K N,True,[]⟩=some ⟨sLpn2p_m H K N j,[((wA .u8 16 H),(22,(0,0))),((wA .u8 32 K),(27,(0,0))),((wA .u8 12 N),(28,(0,0)))],(True∧True),[]⟩:=by kernel_rfl
theorem sLpn2p_2 (H K N:List Int) (j:Nat→Value) (k1:Nat):evL (yty.enf tabQ9 0) (oT (cAt [1,1,0] (bdy Try.f4))) ((oT (cAt [1,1,0] (bdy Try.f4))).toList.drop 2) ⟨putS (sLpn2p_m H K N j) (some 20) (.slice (some ⟨3,0,none⟩) 0 k1),[((wA .u8 16 H),(22,(0,0))),((wA .u8 32 K),(27,(0,0))),((wA .u8 12 N),(28,(0,0)))] ++ [(wA .u8 k1 (([]:List Int) ++ [77]),5,(0,0))],True,[]⟩=some ⟨sLpn2p_b H K N j k1,[((wA .u8 16 H),(22,(0,0))),((wA .u8 32 K),(27,(0,0))),((wA .u8 12 N),(28,(0,0))),((wA .u8 k1 (([]:List Int) ++ [77])),(5,(0,0)))],(True∧True),[]⟩:=by kernel_rfl
theorem sLpn2p_r (H K N:List Int) (j:Nat→Value)  (hH:By H) (hK:By K) (hN:By N) (hM:MakesA Try.prog 12 [((wA .u8 16 H),(22,(0,0))),((wA .u8 32 K),(27,(0,0))),((wA .u8 12 N),(28,(0,0)))] [.slice none 0 0] .u8 0 (([]:List Int) ++ [77]) 5 0) {c0:Prop} {ch0:List (Option Value)}:Runs Try.prog (cAt [1,1,0] (bdy Try.f4)) ⟨sLpnD_s H K N j,sLpnD_m H K N,c0,ch0⟩ (fun e s=>e= .normal∧∃ k1 c ch,((([]:List Int) ++ [77])).length≤k1∧s=⟨sLpn2p_b H K N j k1,[((wA .u8 16 H),(22,(0,0))),((wA .u8 32 K),(27,(0,0))),((wA .u8 12 N),(28,(0,0))),((wA .u8 k1 (([]:List Int) ++ [77])),(5,(0,0)))],c,ch⟩) 0:=
  (runs_call (E:=yty.enf tabQ9 0) (c:=(cAt [1,1,0] (bdy Try.f4))) (f:=12) (xs:= [.tmp 19]) (d:=some 20) (by kernel_rfl) 1 (sLpn2p_1 H K N j) ⟨trivial,trivial⟩ (by kernel_rfl) (call_of Try.func12 (by kernel_rfl) (by kernel_rfl)) rfl hM rfl (of_decide_eq_true (by kernel_rfl)) _ (sLpn2p_2 H K N j) (fun k1 e2=>⟨trivial,trivial⟩)).mono (fun e s ⟨h1,k1,h3,h4⟩=>⟨h1,k1,_,_,h3,h4⟩)
theorem sLpn2 (H K N:List Int) (j:Nat→Value) (hH:By H) (hK:By K) (hN:By N)  {c0:Prop} {ch0:List (Option Value)}:Runs Try.prog (cAt [1,1,0] (bdy Try.f4)) ⟨sLpnD_s H K N j,sLpnD_m H K N,c0,ch0⟩ (fun e s=>e= .normal∧∃(k1:Nat) (j:Nat→Value) (c:Prop) (ch:List (Option Value)),((([]:List Int) ++ [77]).length≤k1)∧s=⟨sLpnE_s H K N k1 j,sLpnE_m H K N k1,c,ch⟩) 0:=by
  refine(sLpn2p_r H K N j hH hK hN   (le9_c (N:=([]:List Int)) src_nil rfl (by decide))).mono ?_
  rintro e s ⟨rfl,k1,c,ch,hk1,hs⟩
  refine⟨rfl,k1,fun q=>s.tm.getD q undef,c,ch,hk1,?_⟩
  subst hs
  kernel_rfl
abbrev sLpnF_s (H K N:List Int) (c9:Nat) (S:List Int) (j:Nat→Value):List Value:=([j 0,.slice none 0 0,j 2,j 3,.pointer (some ⟨0,0,none⟩),j 5,.pointer (some ⟨1,0,none⟩),.pointer (some ⟨2,0,none⟩),j 8,.slice (some ⟨3,0,none⟩) 0 c9,.pointer (some ⟨4,0,none⟩)] ++ (J j 11 48))
abbrev sLpnF_m (H K N:List Int) (c9:Nat) (S:List Int):List Mb:= [((wA .u8 16 H),(22,(0,0))),((wA .u8 32 K),(27,(0,0))),((wA .u8 12 N),(28,(0,0))),((wA .u8 c9 (([]:List Int) ++ [77])),(5,(0,0))),((wA .u8 16 S),(22,(0,0)))]
def sLpn3p_h (i:Nat):Hn:=if i=7 then⟨24,[],[],[],[]⟩ else⟨0,[],[],[],[]⟩
def sLpn3p_b (H K N:List Int) (c9:Nat) (j:Nat→Value):List Value:=([j 0,.slice none 0 0,j 2,j 3,.pointer (some ⟨0,0,none⟩),j 5,.pointer (some ⟨1,0,none⟩),.pointer (some ⟨2,0,none⟩),j 8,.slice (some ⟨3,0,none⟩) 0 c9,.pointer (some ⟨4,0,none⟩)] ++ (J j 11 10 ++ ([.agg (wA .u8 16 H),.slice (some ⟨3,0,none⟩) 0 c9,.agg (wA .u8 16 (absL (dL8 (wA .u8 16 H)) [] (bOf [((wA .u8 16 H),(22,(0,0))),((wA .u8 32 K),(27,(0,0))),((wA .u8 12 N),(28,(0,0))),((wA .u8 c9 (([]:List Int) ++ [77])),(5,(0,0)))] (some ⟨3,0,none⟩) 0)))] ++ (J j 24 35))))
theorem sLpn3p_0 (H K N:List Int) (c9:Nat) (j:Nat→Value):evC (yty.en tabQ9) sLpn3p_h (cAt [1,1,1,0] (bdy Try.f4)) ⟨sLpnE_s H K N c9 j,sLpnE_m H K N c9,True,[]⟩=some (.normal,⟨sLpn3p_b H K N c9 j,[((wA .u8 16 H),(22,(0,0))),((wA .u8 32 K),(27,(0,0))),((wA .u8 12 N),(28,(0,0))),((wA .u8 c9 (([]:List Int) ++ [77])),(5,(0,0))),((wA .u8 16 (absL (dL8 (wA .u8 16 H)) [] (bOf [((wA .u8 16 H),(22,(0,0))),((wA .u8 32 K),(27,(0,0))),((wA .u8 12 N),(28,(0,0))),((wA .u8 c9 (([]:List Int) ++ [77])),(5,(0,0)))] (some ⟨3,0,none⟩) 0))),(22,(0,0)))],((((True∧True)∧True)∧(((wA .u8 16 H)=wA .u8 16 (dL8 (wA .u8 16 H))∧By (dL8 (wA .u8 16 H)))∧BkOk [((wA .u8 16 H),(22,(0,0))),((wA .u8 32 K),(27,(0,0))),((wA .u8 12 N),(28,(0,0))),((wA .u8 c9 (([]:List Int) ++ [77])),(5,(0,0)))] (some ⟨3,0,none⟩) 0 c9∧0≤1000000))∧((wA .u8 16 (absL (dL8 (wA .u8 16 H)) [] (bOf [((wA .u8 16 H),(22,(0,0))),((wA .u8 32 K),(27,(0,0))),((wA .u8 12 N),(28,(0,0))),((wA .u8 c9 (([]:List Int) ++ [77])),(5,(0,0)))] (some ⟨3,0,none⟩) 0))).all (fun v=>v.oneCell')=true)),[]⟩):=by kernel_rfl
theorem sLpn3 (H K N:List Int) (c9:Nat) (j:Nat→Value) (hH:By H) (hK:By K) (hN:By N) (hc:(([]:List Int) ++ [77]).length≤c9)  {c0:Prop} {ch0:List (Option Value)}:Runs Try.prog (cAt [1,1,1,0] (bdy Try.f4)) ⟨sLpnE_s H K N c9 j,sLpnE_m H K N c9,c0,ch0⟩ (fun e s=>e= .normal∧∃(j:Nat→Value) (c:Prop) (ch:List (Option Value)),((absL (dL8 (wA .u8 16 H)) [] (bOf [((wA .u8 16 H),(22,(0,0))),((wA .u8 32 K),(27,(0,0))),((wA .u8 12 N),(28,(0,0))),((wA .u8 c9 (([]:List Int) ++ [77])),(5,(0,0)))] (some ⟨3,0,none⟩) 0))=absL H [] ([]:List Int))∧s=⟨sLpnF_s H K N c9 (absL (dL8 (wA .u8 16 H)) [] (bOf [((wA .u8 16 H),(22,(0,0))),((wA .u8 32 K),(27,(0,0))),((wA .u8 12 N),(28,(0,0))),((wA .u8 c9 (([]:List Int) ++ [77])),(5,(0,0)))] (some ⟨3,0,none⟩) 0)) j,sLpnF_m H K N c9 (absL (dL8 (wA .u8 16 H)) [] (bOf [((wA .u8 16 H),(22,(0,0))),((wA .u8 32 K),(27,(0,0))),((wA .u8 12 N),(28,(0,0))),((wA .u8 c9 (([]:List Int) ++ [77])),(5,(0,0)))] (some ⟨3,0,none⟩) 0)),c,ch⟩) 0:=by
  refine(runs_ev mixed _ (sLpn3p_0 H K N c9 j) ⟨⟨⟨⟨trivial,trivial⟩,trivial⟩,⟨dq hH,(lentB (N:=([]:List Int)) (l:=0) by_nil rfl hc rfl).1,by omega⟩⟩,(wA_one _ _ _)⟩).mono ?_
  rintro e s ⟨rfl,hs⟩
  refine⟨rfl,fun q=>s.tm.getD q undef,s.c,s.ch,by rw[absL_h,(lentB (N:=([]:List Int)) (l:=0) by_nil rfl hc rfl).2],?_⟩
  subst hs
  kernel_rfl
abbrev sLpnG_s (H K N:List Int) (c9:Nat) (S:List Int) (j:Nat→Value):List Value:=([j 0,.slice none 0 0,j 2,j 3,.pointer (some ⟨0,0,none⟩),j 5,.pointer (some ⟨1,0,none⟩),.pointer (some ⟨2,0,none⟩),j 8,.slice (some ⟨3,0,none⟩) 0 c9,.pointer (some ⟨4,0,none⟩),.pointer (some ⟨5,0,none⟩),.pointer (some ⟨6,0,none⟩)] ++ (J j 13 46))
abbrev sLpnG_m (H K N:List Int) (c9:Nat) (S:List Int):List Mb:= [((wA .u8 16 H),(22,(0,0))),((wA .u8 32 K),(27,(0,0))),((wA .u8 12 N),(28,(0,0))),((wA .u8 c9 (([]:List Int) ++ [77])),(5,(0,0))),((wA .u8 16 S),(22,(0,0))),((wA .u8 16 (kyL (dL8 (wA .u8 32 K)) (dL8 (wA .u8 12 N)) 0 2)),(22,(0,0))),((wA .u8 32 (kyL (dL8 (wA .u8 32 K)) (dL8 (wA .u8 12 N)) 2 4)),(27,(0,0)))]
def sLpn4p_h (i:Nat):Hn:=if i=7 then⟨24,[],[],[],[]⟩ else⟨0,[],[],[],[]⟩
def sLpn4p_b (H K N:List Int) (c9:Nat) (S:List Int) (j:Nat→Value):List Value:=([j 0,.slice none 0 0,j 2,j 3,.pointer (some ⟨0,0,none⟩),j 5,.pointer (some ⟨1,0,none⟩),.pointer (some ⟨2,0,none⟩),j 8,.slice (some ⟨3,0,none⟩) 0 c9,.pointer (some ⟨4,0,none⟩),.pointer (some ⟨5,0,none⟩),.pointer (some ⟨6,0,none⟩)] ++ (J j 13 11 ++ ([.tuple #[.agg (wA .u8 16 (kyL (dL8 (wA .u8 32 K)) (dL8 (wA .u8 12 N)) 0 2)),.agg (wA .u8 32 (kyL (dL8 (wA .u8 32 K)) (dL8 (wA .u8 12 N)) 2 4))],.agg (wA .u8 32 K),.agg (wA .u8 12 N),.tuple #[.agg (wA .u8 16 (kyL (dL8 (wA .u8 32 K)) (dL8 (wA .u8 12 N)) 0 2)),.agg (wA .u8 32 (kyL (dL8 (wA .u8 32 K)) (dL8 (wA .u8 12 N)) 2 4))],.agg (wA .u8 16 (kyL (dL8 (wA .u8 32 K)) (dL8 (wA .u8 12 N)) 0 2)),.agg (wA .u8 32 (kyL (dL8 (wA .u8 32 K)) (dL8 (wA .u8 12 N)) 2 4))] ++ (J j 30 29))))
theorem sLpn4p_0 (H K N:List Int) (c9:Nat) (S:List Int) (j:Nat→Value):evC (yty.en tabQ9) sLpn4p_h (cAt [1,1,1,1,0] (bdy Try.f4)) ⟨sLpnF_s H K N c9 S j,sLpnF_m H K N c9 S,True,[]⟩=some (.normal,⟨sLpn4p_b H K N c9 S j,[((wA .u8 16 H),(22,(0,0))),((wA .u8 32 K),(27,(0,0))),((wA .u8 12 N),(28,(0,0))),((wA .u8 c9 (([]:List Int) ++ [77])),(5,(0,0))),((wA .u8 16 S),(22,(0,0))),((wA .u8 16 (kyL (dL8 (wA .u8 32 K)) (dL8 (wA .u8 12 N)) 0 2)),(22,(0,0))),((wA .u8 32 (kyL (dL8 (wA .u8 32 K)) (dL8 (wA .u8 12 N)) 2 4)),(27,(0,0)))],((((((((True∧True)∧True)∧(((wA .u8 32 K)=wA .u8 32 (dL8 (wA .u8 32 K))∧By (dL8 (wA .u8 32 K)))∧((wA .u8 12 N)=wA .u8 12 (dL8 (wA .u8 12 N))∧By (dL8 (wA .u8 12 N)))))∧True)∧True)∧True)∧((wA .u8 16 (kyL (dL8 (wA .u8 32 K)) (dL8 (wA .u8 12 N)) 0 2)).all (fun v=>v.oneCell')=true))∧((wA .u8 32 (kyL (dL8 (wA .u8 32 K)) (dL8 (wA .u8 12 N)) 2 4)).all (fun v=>v.oneCell')=true)),[]⟩):=by kernel_rfl
theorem sLpn4 (H K N:List Int) (c9:Nat) (S:List Int) (j:Nat→Value) (hH:By H) (hK:By K) (hN:By N) (hc:(([]:List Int) ++ [77]).length≤c9) (hS:S=absL H [] ([]:List Int))  {c0:Prop} {ch0:List (Option Value)}:Runs Try.prog (cAt [1,1,1,1,0] (bdy Try.f4)) ⟨sLpnF_s H K N c9 S j,sLpnF_m H K N c9 S,c0,ch0⟩ (fun e s=>e= .normal∧∃(j:Nat→Value) (c:Prop) (ch:List (Option Value)),s=⟨sLpnG_s H K N c9 S j,sLpnG_m H K N c9 S,c,ch⟩) 0:=by
  refine(runs_ev mixed _ (sLpn4p_0 H K N c9 S j) ⟨⟨⟨⟨⟨⟨⟨⟨trivial,trivial⟩,trivial⟩,⟨dq hK,dq hN⟩⟩,trivial⟩,trivial⟩,trivial⟩,(wA_one _ _ _)⟩,(wA_one _ _ _)⟩).mono ?_
  rintro e s ⟨rfl,hs⟩
  refine⟨rfl,fun q=>s.tm.getD q undef,s.c,s.ch,?_⟩
  subst hs
  kernel_rfl
abbrev sLpnH_s (H K N:List Int) (c9:Nat) (S:List Int) (j:Nat→Value):List Value:=([j 0,.slice none 0 0,j 2,j 3,.pointer (some ⟨0,0,none⟩),j 5,.pointer (some ⟨1,0,none⟩),.pointer (some ⟨2,0,none⟩),j 8,.slice (some ⟨3,0,none⟩) 0 c9,.pointer (some ⟨4,0,none⟩),.pointer (some ⟨5,0,none⟩),.pointer (some ⟨6,0,none⟩),.pointer (some ⟨7,0,none⟩),.pointer (some ⟨8,0,none⟩)] ++ (J j 15 44))
abbrev sLpnH_m (H K N:List Int) (c9:Nat) (S:List Int):List Mb:= [((wA .u8 16 H),(22,(0,0))),((wA .u8 32 K),(27,(0,0))),((wA .u8 12 N),(28,(0,0))),((wA .u8 c9 (([]:List Int) ++ [77])),(5,(0,0))),((wA .u8 16 S),(22,(0,0))),((wA .u8 16 (kyL (dL8 (wA .u8 32 K)) (dL8 (wA .u8 12 N)) 0 2)),(22,(0,0))),((wA .u8 32 (kyL (dL8 (wA .u8 32 K)) (dL8 (wA .u8 12 N)) 2 4)),(27,(0,0))),((wA .u8 16 (kyL (dL8 (wA .u8 32 K)) (dL8 (wA .u8 12 N)) 0 2)),(22,(0,0))),((wA .u8 32 (kyL (dL8 (wA .u8 32 K)) (dL8 (wA .u8 12 N)) 2 4)),(27,(0,0)))]
def sLpn5p_h (i:Nat):Hn:=if i=7 then⟨24,[],[],[],[]⟩ else⟨0,[],[],[],[]⟩
def sLpn5p_b (H K N:List Int) (c9:Nat) (S:List Int) (j:Nat→Value):List Value:=([j 0,.slice none 0 0,j 2,j 3,.pointer (some ⟨0,0,none⟩),j 5,.pointer (some ⟨1,0,none⟩),.pointer (some ⟨2,0,none⟩),j 8,.slice (some ⟨3,0,none⟩) 0 c9,.pointer (some ⟨4,0,none⟩),.pointer (some ⟨5,0,none⟩),.pointer (some ⟨6,0,none⟩),.pointer (some ⟨7,0,none⟩),.pointer (some ⟨8,0,none⟩)] ++ (J j 15 15 ++ ([.tuple #[.agg (wA .u8 16 (kyL (dL8 (wA .u8 32 K)) (dL8 (wA .u8 12 N)) 0 2)),.agg (wA .u8 32 (kyL (dL8 (wA .u8 32 K)) (dL8 (wA .u8 12 N)) 2 4))],.agg (wA .u8 32 K),.agg (wA .u8 12 N),.tuple #[.agg (wA .u8 16 (kyL (dL8 (wA .u8 32 K)) (dL8 (wA .u8 12 N)) 0 2)),.agg (wA .u8 32 (kyL (dL8 (wA .u8 32 K)) (dL8 (wA .u8 12 N)) 2 4))],.agg (wA .u8 16 (kyL (dL8 (wA .u8 32 K)) (dL8 (wA .u8 12 N)) 0 2)),.agg (wA .u8 32 (kyL (dL8 (wA .u8 32 K)) (dL8 (wA .u8 12 N)) 2 4))] ++ (J j 36 23))))
theorem sLpn5p_0 (H K N:List Int) (c9:Nat) (S:List Int) (j:Nat→Value):evC (yty.en tabQ9) sLpn5p_h (cAt [1,1,1,1,1,0] (bdy Try.f4)) ⟨sLpnG_s H K N c9 S j,sLpnG_m H K N c9 S,True,[]⟩=some (.normal,⟨sLpn5p_b H K N c9 S j,[((wA .u8 16 H),(22,(0,0))),((wA .u8 32 K),(27,(0,0))),((wA .u8 12 N),(28,(0,0))),((wA .u8 c9 (([]:List Int) ++ [77])),(5,(0,0))),((wA .u8 16 S),(22,(0,0))),((wA .u8 16 (kyL (dL8 (wA .u8 32 K)) (dL8 (wA .u8 12 N)) 0 2)),(22,(0,0))),((wA .u8 32 (kyL (dL8 (wA .u8 32 K)) (dL8 (wA .u8 12 N)) 2 4)),(27,(0,0))),((wA .u8 16 (kyL (dL8 (wA .u8 32 K)) (dL8 (wA .u8 12 N)) 0 2)),(22,(0,0))),((wA .u8 32 (kyL (dL8 (wA .u8 32 K)) (dL8 (wA .u8 12 N)) 2 4)),(27,(0,0)))],((((((((True∧True)∧True)∧(((wA .u8 32 K)=wA .u8 32 (dL8 (wA .u8 32 K))∧By (dL8 (wA .u8 32 K)))∧((wA .u8 12 N)=wA .u8 12 (dL8 (wA .u8 12 N))∧By (dL8 (wA .u8 12 N)))))∧True)∧True)∧True)∧((wA .u8 16 (kyL (dL8 (wA .u8 32 K)) (dL8 (wA .u8 12 N)) 0 2)).all (fun v=>v.oneCell')=true))∧((wA .u8 32 (kyL (dL8 (wA .u8 32 K)) (dL8 (wA .u8 12 N)) 2 4)).all (fun v=>v.oneCell')=true)),[]⟩):=by kernel_rfl
theorem sLpn5 (H K N:List Int) (c9:Nat) (S:List Int) (j:Nat→Value) (hH:By H) (hK:By K) (hN:By N) (hc:(([]:List Int) ++ [77]).length≤c9) (hS:S=absL H [] ([]:List Int))  {c0:Prop} {ch0:List (Option Value)}:Runs Try.prog (cAt [1,1,1,1,1,0] (bdy Try.f4)) ⟨sLpnG_s H K N c9 S j,sLpnG_m H K N c9 S,c0,ch0⟩ (fun e s=>e= .normal∧∃(j:Nat→Value) (c:Prop) (ch:List (Option Value)),s=⟨sLpnH_s H K N c9 S j,sLpnH_m H K N c9 S,c,ch⟩) 0:=by
  refine(runs_ev mixed _ (sLpn5p_0 H K N c9 S j) ⟨⟨⟨⟨⟨⟨⟨⟨trivial,trivial⟩,trivial⟩,⟨dq hK,dq hN⟩⟩,trivial⟩,trivial⟩,trivial⟩,(wA_one _ _ _)⟩,(wA_one _ _ _)⟩).mono ?_
  rintro e s ⟨rfl,hs⟩
  refine⟨rfl,fun q=>s.tm.getD q undef,s.c,s.ch,?_⟩
  subst hs
  kernel_rfl
abbrev sLpnI_s (H K N:List Int) (c9:Nat) (S:List Int) (j:Nat→Value):List Value:=(J j 0 8 ++ ([.bool true] ++ (J j 9 50)))
abbrev sLpnI_m (H K N:List Int) (c9:Nat) (S:List Int):List Mb:= [((wA .u8 16 H),(22,(0,0))),((wA .u8 32 K),(27,(0,0))),((wA .u8 12 N),(28,(0,0))),((wA .u8 c9 (([]:List Int) ++ [77])),(5,(0,0))),((wA .u8 16 S),(22,(0,0))),((wA .u8 16 (kyL (dL8 (wA .u8 32 K)) (dL8 (wA .u8 12 N)) 0 2)),(22,(0,0))),((wA .u8 32 (kyL (dL8 (wA .u8 32 K)) (dL8 (wA .u8 12 N)) 2 4)),(27,(0,0))),((wA .u8 16 (kyL (dL8 (wA .u8 32 K)) (dL8 (wA .u8 12 N)) 0 2)),(22,(0,0))),((wA .u8 32 (kyL (dL8 (wA .u8 32 K)) (dL8 (wA .u8 12 N)) 2 4)),(27,(0,0)))]
def sLpn6p_h (i:Nat):Hn:=if i=7 then⟨24,[],[],[],[]⟩ else⟨0,[],[],[],[]⟩
def sLpn6p_b (H K N:List Int) (c9:Nat) (S:List Int) (j:Nat→Value):List Value:=([j 0,.slice none 0 0,j 2,j 3,.pointer (some ⟨0,0,none⟩),j 5,.pointer (some ⟨1,0,none⟩),.pointer (some ⟨2,0,none⟩),.bool true,.slice (some ⟨3,0,none⟩) 0 c9,.pointer (some ⟨4,0,none⟩),.pointer (some ⟨5,0,none⟩),.pointer (some ⟨6,0,none⟩),.pointer (some ⟨7,0,none⟩),.pointer (some ⟨8,0,none⟩)] ++ (J j 15 21 ++ ([.slice (some ⟨3,0,none⟩) 0 c9,.slice none 0 0,.bool true,.bool true,.agg (wA .u8 16 S),.agg (wA .u8 16 H),.slice none 0 0,.agg (wA .u8 16 (absL (dL8 (wA .u8 16 H)) [] (bOf [((wA .u8 16 H),(22,(0,0))),((wA .u8 32 K),(27,(0,0))),((wA .u8 12 N),(28,(0,0))),((wA .u8 c9 (([]:List Int) ++ [77])),(5,(0,0))),((wA .u8 16 S),(22,(0,0))),((wA .u8 16 (kyL (dL8 (wA .u8 32 K)) (dL8 (wA .u8 12 N)) 0 2)),(22,(0,0))),((wA .u8 32 (kyL (dL8 (wA .u8 32 K)) (dL8 (wA .u8 12 N)) 2 4)),(27,(0,0))),((wA .u8 16 (kyL (dL8 (wA .u8 32 K)) (dL8 (wA .u8 12 N)) 0 2)),(22,(0,0))),((wA .u8 32 (kyL (dL8 (wA .u8 32 K)) (dL8 (wA .u8 12 N)) 2 4)),(27,(0,0)))] none 0))),.bool true,.bool true,.bool true,.agg (wA .u8 16 (kyL (dL8 (wA .u8 32 K)) (dL8 (wA .u8 12 N)) 0 2)),.agg (wA .u8 16 (kyL (dL8 (wA .u8 32 K)) (dL8 (wA .u8 12 N)) 0 2)),.bool true,.bool true,.bool true,.agg (wA .u8 32 (kyL (dL8 (wA .u8 32 K)) (dL8 (wA .u8 12 N)) 2 4)),.agg (wA .u8 32 (kyL (dL8 (wA .u8 32 K)) (dL8 (wA .u8 12 N)) 2 4)),.bool true,.bool true,.bool true,.bool true,.bool true])))
theorem sLpn6p_0 (H K N:List Int) (c9:Nat) (S:List Int) (j:Nat→Value):evC (yty.en tabQ9) sLpn6p_h (cAt [1,1,1,1,1,1] (bdy Try.f4)) ⟨sLpnH_s H K N c9 S j,sLpnH_m H K N c9 S,True,[none,some (.bool true),some (.bool true),some (.bool true)]⟩=some (.ret,⟨sLpn6p_b H K N c9 S j,[((wA .u8 16 H),(22,(0,0))),((wA .u8 32 K),(27,(0,0))),((wA .u8 12 N),(28,(0,0))),((wA .u8 c9 (([]:List Int) ++ [77])),(5,(0,0))),((wA .u8 16 S),(22,(0,0))),((wA .u8 16 (kyL (dL8 (wA .u8 32 K)) (dL8 (wA .u8 12 N)) 0 2)),(22,(0,0))),((wA .u8 32 (kyL (dL8 (wA .u8 32 K)) (dL8 (wA .u8 12 N)) 2 4)),(27,(0,0))),((wA .u8 16 (kyL (dL8 (wA .u8 32 K)) (dL8 (wA .u8 12 N)) 0 2)),(22,(0,0))),((wA .u8 32 (kyL (dL8 (wA .u8 32 K)) (dL8 (wA .u8 12 N)) 2 4)),(27,(0,0)))],((((((((((((((((((((((((True∧True)∧True)∧((wA .u8 c9 (([]:List Int) ++ [77]))=wA .u8 c9 (bOf [((wA .u8 16 H),(22,(0,0))),((wA .u8 32 K),(27,(0,0))),((wA .u8 12 N),(28,(0,0))),((wA .u8 c9 (([]:List Int) ++ [77])),(5,(0,0))),((wA .u8 16 S),(22,(0,0))),((wA .u8 16 (kyL (dL8 (wA .u8 32 K)) (dL8 (wA .u8 12 N)) 0 2)),(22,(0,0))),((wA .u8 32 (kyL (dL8 (wA .u8 32 K)) (dL8 (wA .u8 12 N)) 2 4)),(27,(0,0))),((wA .u8 16 (kyL (dL8 (wA .u8 32 K)) (dL8 (wA .u8 12 N)) 0 2)),(22,(0,0))),((wA .u8 32 (kyL (dL8 (wA .u8 32 K)) (dL8 (wA .u8 12 N)) 2 4)),(27,(0,0)))] none 0 ++ [77])∧0=0∧BkOk [((wA .u8 16 H),(22,(0,0))),((wA .u8 32 K),(27,(0,0))),((wA .u8 12 N),(28,(0,0))),((wA .u8 c9 (([]:List Int) ++ [77])),(5,(0,0))),((wA .u8 16 S),(22,(0,0))),((wA .u8 16 (kyL (dL8 (wA .u8 32 K)) (dL8 (wA .u8 12 N)) 0 2)),(22,(0,0))),((wA .u8 32 (kyL (dL8 (wA .u8 32 K)) (dL8 (wA .u8 12 N)) 2 4)),(27,(0,0))),((wA .u8 16 (kyL (dL8 (wA .u8 32 K)) (dL8 (wA .u8 12 N)) 0 2)),(22,(0,0))),((wA .u8 32 (kyL (dL8 (wA .u8 32 K)) (dL8 (wA .u8 12 N)) 2 4)),(27,(0,0)))] none 0 0∧0≤100000000∧0+1≤c9))∧True)∧True)∧True)∧True)∧(((wA .u8 16 H)=wA .u8 16 (dL8 (wA .u8 16 H))∧By (dL8 (wA .u8 16 H)))∧BkOk [((wA .u8 16 H),(22,(0,0))),((wA .u8 32 K),(27,(0,0))),((wA .u8 12 N),(28,(0,0))),((wA .u8 c9 (([]:List Int) ++ [77])),(5,(0,0))),((wA .u8 16 S),(22,(0,0))),((wA .u8 16 (kyL (dL8 (wA .u8 32 K)) (dL8 (wA .u8 12 N)) 0 2)),(22,(0,0))),((wA .u8 32 (kyL (dL8 (wA .u8 32 K)) (dL8 (wA .u8 12 N)) 2 4)),(27,(0,0))),((wA .u8 16 (kyL (dL8 (wA .u8 32 K)) (dL8 (wA .u8 12 N)) 0 2)),(22,(0,0))),((wA .u8 32 (kyL (dL8 (wA .u8 32 K)) (dL8 (wA .u8 12 N)) 2 4)),(27,(0,0)))] none 0 0∧0≤1000000))∧((isBL 16 (wA .u8 16 S)∧isBL 16 (wA .u8 16 (absL (dL8 (wA .u8 16 H)) [] (bOf [((wA .u8 16 H),(22,(0,0))),((wA .u8 32 K),(27,(0,0))),((wA .u8 12 N),(28,(0,0))),((wA .u8 c9 (([]:List Int) ++ [77])),(5,(0,0))),((wA .u8 16 S),(22,(0,0))),((wA .u8 16 (kyL (dL8 (wA .u8 32 K)) (dL8 (wA .u8 12 N)) 0 2)),(22,(0,0))),((wA .u8 32 (kyL (dL8 (wA .u8 32 K)) (dL8 (wA .u8 12 N)) 2 4)),(27,(0,0))),((wA .u8 16 (kyL (dL8 (wA .u8 32 K)) (dL8 (wA .u8 12 N)) 0 2)),(22,(0,0))),((wA .u8 32 (kyL (dL8 (wA .u8 32 K)) (dL8 (wA .u8 12 N)) 2 4)),(27,(0,0)))] none 0))))∧(intsOf (wA .u8 16 S) == intsOf (wA .u8 16 (absL (dL8 (wA .u8 16 H)) [] (bOf [((wA .u8 16 H),(22,(0,0))),((wA .u8 32 K),(27,(0,0))),((wA .u8 12 N),(28,(0,0))),((wA .u8 c9 (([]:List Int) ++ [77])),(5,(0,0))),((wA .u8 16 S),(22,(0,0))),((wA .u8 16 (kyL (dL8 (wA .u8 32 K)) (dL8 (wA .u8 12 N)) 0 2)),(22,(0,0))),((wA .u8 32 (kyL (dL8 (wA .u8 32 K)) (dL8 (wA .u8 12 N)) 2 4)),(27,(0,0))),((wA .u8 16 (kyL (dL8 (wA .u8 32 K)) (dL8 (wA .u8 12 N)) 0 2)),(22,(0,0))),((wA .u8 32 (kyL (dL8 (wA .u8 32 K)) (dL8 (wA .u8 12 N)) 2 4)),(27,(0,0)))] none 0))))=true))∧True)∧True)∧True)∧True)∧((isBL 16 (wA .u8 16 (kyL (dL8 (wA .u8 32 K)) (dL8 (wA .u8 12 N)) 0 2))∧isBL 16 (wA .u8 16 (kyL (dL8 (wA .u8 32 K)) (dL8 (wA .u8 12 N)) 0 2)))∧(intsOf (wA .u8 16 (kyL (dL8 (wA .u8 32 K)) (dL8 (wA .u8 12 N)) 0 2)) == intsOf (wA .u8 16 (kyL (dL8 (wA .u8 32 K)) (dL8 (wA .u8 12 N)) 0 2)))=true))∧True)∧True)∧True)∧True)∧((byD.is (wA .u8 32 (kyL (dL8 (wA .u8 32 K)) (dL8 (wA .u8 12 N)) 2 4))∧byD.is (wA .u8 32 (kyL (dL8 (wA .u8 32 K)) (dL8 (wA .u8 12 N)) 2 4)))∧(decide (db (wA .u8 32 (kyL (dL8 (wA .u8 32 K)) (dL8 (wA .u8 12 N)) 2 4))=db (wA .u8 32 (kyL (dL8 (wA .u8 32 K)) (dL8 (wA .u8 12 N)) 2 4))))=true))∧True)∧True)∧True)∧True)∧True),[]⟩):=by kernel_rfl
theorem sLpn6 (H K N:List Int) (c9:Nat) (S:List Int) (j:Nat→Value) (hH:By H) (hK:By K) (hN:By N) (hc:(([]:List Int) ++ [77]).length≤c9) (hS:S=absL H [] ([]:List Int))  {c0:Prop} {ch0:List (Option Value)}:Runs Try.prog (cAt [1,1,1,1,1,1] (bdy Try.f4)) ⟨sLpnH_s H K N c9 S j,sLpnH_m H K N c9 S,c0,ch0⟩ (fun e s=>e= .ret∧∃(j:Nat→Value) (c:Prop) (ch:List (Option Value)),s=⟨sLpnI_s H K N c9 S j,sLpnI_m H K N c9 S,c,ch⟩) 0:=by
  have h1:(intsOf (wA .u8 16 S) == intsOf (wA .u8 16 (absL (dL8 (wA .u8 16 H)) [] (bOf [((wA .u8 16 H),(22,(0,0))),((wA .u8 32 K),(27,(0,0))),((wA .u8 12 N),(28,(0,0))),((wA .u8 c9 (([]:List Int) ++ [77])),(5,(0,0))),((wA .u8 16 S),(22,(0,0))),((wA .u8 16 (kyL (dL8 (wA .u8 32 K)) (dL8 (wA .u8 12 N)) 0 2)),(22,(0,0))),((wA .u8 32 (kyL (dL8 (wA .u8 32 K)) (dL8 (wA .u8 12 N)) 2 4)),(27,(0,0))),((wA .u8 16 (kyL (dL8 (wA .u8 32 K)) (dL8 (wA .u8 12 N)) 0 2)),(22,(0,0))),((wA .u8 32 (kyL (dL8 (wA .u8 32 K)) (dL8 (wA .u8 12 N)) 2 4)),(27,(0,0)))] none 0))))=true:=(by rw[absL_h,show bOf [((wA .u8 16 H),(22,(0,0))),((wA .u8 32 K),(27,(0,0))),((wA .u8 12 N),(28,(0,0))),((wA .u8 c9 (([]:List Int) ++ [77])),(5,(0,0))),((wA .u8 16 S),(22,(0,0))),((wA .u8 16 (kyL (dL8 (wA .u8 32 K)) (dL8 (wA .u8 12 N)) 0 2)),(22,(0,0))),((wA .u8 32 (kyL (dL8 (wA .u8 32 K)) (dL8 (wA .u8 12 N)) 2 4)),(27,(0,0))),((wA .u8 16 (kyL (dL8 (wA .u8 32 K)) (dL8 (wA .u8 12 N)) 0 2)),(22,(0,0))),((wA .u8 32 (kyL (dL8 (wA .u8 32 K)) (dL8 (wA .u8 12 N)) 2 4)),(27,(0,0)))] none 0=([]:List Int) from rfl,hS];exact beq_self_eq_true _)
  have h2:(intsOf (wA .u8 16 (kyL (dL8 (wA .u8 32 K)) (dL8 (wA .u8 12 N)) 0 2)) == intsOf (wA .u8 16 (kyL (dL8 (wA .u8 32 K)) (dL8 (wA .u8 12 N)) 0 2)))=true:=(beq_self_eq_true _)
  have h3:(decide (db (wA .u8 32 (kyL (dL8 (wA .u8 32 K)) (dL8 (wA .u8 12 N)) 2 4))=db (wA .u8 32 (kyL (dL8 (wA .u8 32 K)) (dL8 (wA .u8 12 N)) 2 4))))=true:=(decide_eq_true rfl)
  refine(runs_ev mixed _ (sLpn6p_0 H K N c9 S j) ⟨⟨⟨⟨⟨⟨⟨⟨⟨⟨⟨⟨⟨⟨⟨⟨⟨⟨⟨⟨⟨⟨⟨⟨trivial,trivial⟩,trivial⟩,⟨by rw[show bOf [((wA .u8 16 H),(22,(0,0))),((wA .u8 32 K),(27,(0,0))),((wA .u8 12 N),(28,(0,0))),((wA .u8 c9 (([]:List Int) ++ [77])),(5,(0,0))),((wA .u8 16 S),(22,(0,0))),((wA .u8 16 (kyL (dL8 (wA .u8 32 K)) (dL8 (wA .u8 12 N)) 0 2)),(22,(0,0))),((wA .u8 32 (kyL (dL8 (wA .u8 32 K)) (dL8 (wA .u8 12 N)) 2 4)),(27,(0,0))),((wA .u8 16 (kyL (dL8 (wA .u8 32 K)) (dL8 (wA .u8 12 N)) 0 2)),(22,(0,0))),((wA .u8 32 (kyL (dL8 (wA .u8 32 K)) (dL8 (wA .u8 12 N)) 2 4)),(27,(0,0)))] none 0=([]:List Int) from rfl],rfl,⟨by decide,.inl ⟨rfl,rfl,rfl⟩⟩,by omega,by have:=hc;simp only[List.length_append,List.length_cons,List.length_nil] at this;omega⟩⟩,trivial⟩,trivial⟩,trivial⟩,trivial⟩,⟨dq hH,⟨by decide,.inl ⟨rfl,rfl,rfl⟩⟩,by omega⟩⟩,⟨⟨isBL_w _ _,isBL_w _ _⟩,h1⟩⟩,trivial⟩,trivial⟩,trivial⟩,trivial⟩,⟨⟨isBL_w _ _,isBL_w _ _⟩,h2⟩⟩,trivial⟩,trivial⟩,trivial⟩,trivial⟩,⟨⟨by_is (kyL_by _ _ _ _),by_is (kyL_by _ _ _ _)⟩,h3⟩⟩,trivial⟩,trivial⟩,trivial⟩,trivial⟩,trivial⟩).mono ?_
  rintro e s ⟨rfl,hs⟩
  refine⟨rfl,fun q=>s.tm.getD q undef,s.c,s.ch,?_⟩
  subst hs
  kernel_rfl
theorem sLpnu (H K N:List Int) (j:Nat→Value) (hH:By H) (hK:By K) (hN:By N)  {c0:Prop} {ch0:List (Option Value)}:Runs Try.prog (cAt [] (bdy Try.f4)) ⟨sLpnC_s H K N j,sLpnC_m H K N,c0,ch0⟩ (fun e s=>e= .ret∧∃(k12:Nat) (j:Nat→Value) (c:Prop) (ch:List (Option Value)),s=⟨sLpnI_s H K N k12 (absL (dL8 (wA .u8 16 H)) [] (bOf [((wA .u8 16 H),(22,(0,0))),((wA .u8 32 K),(27,(0,0))),((wA .u8 12 N),(28,(0,0))),((wA .u8 k12 (([]:List Int) ++ [77])),(5,(0,0)))] (some ⟨3,0,none⟩) 0)) j,sLpnI_m H K N k12 (absL (dL8 (wA .u8 16 H)) [] (bOf [((wA .u8 16 H),(22,(0,0))),((wA .u8 32 K),(27,(0,0))),((wA .u8 12 N),(28,(0,0))),((wA .u8 k12 (([]:List Int) ++ [77])),(5,(0,0)))] (some ⟨3,0,none⟩) 0)),c,ch⟩) 0:=by
  rw[show(cAt [] (bdy Try.f4))=(.seq (cAt [0] (bdy Try.f4)) (.seq (cAt [1,0] (bdy Try.f4)) (.seq (cAt [1,1,0] (bdy Try.f4)) (.seq (cAt [1,1,1,0] (bdy Try.f4)) (.seq (cAt [1,1,1,1,0] (bdy Try.f4)) (.seq (cAt [1,1,1,1,1,0] (bdy Try.f4)) (cAt [1,1,1,1,1,1] (bdy Try.f4)))))))) from by kernel_rfl]
  refine runs_seq (sLpn0 H K N j hH hK hN ) (fun s hh=> ?_) (fun e s hne hh=>absurd hh.1 hne)
  obtain⟨_,j,c,ch,rfl⟩:=hh
  refine runs_seq (sLpn1 H K N j hH hK hN ) (fun s hh=> ?_) (fun e s hne hh=>absurd hh.1 hne)
  obtain⟨_,j,c,ch,rfl⟩:=hh
  refine runs_seq (sLpn2 H K N j hH hK hN ) (fun s hh=> ?_) (fun e s hne hh=>absurd hh.1 hne)
  obtain⟨_,k12,j,c,ch,f2_3,rfl⟩:=hh
  refine runs_seq (sLpn3 H K N k12 j hH hK hN f2_3 ) (fun s hh=> ?_) (fun e s hne hh=>absurd hh.1 hne)
  obtain⟨_,j,c,ch,f3_4,rfl⟩:=hh
  refine runs_seq (sLpn4 H K N k12 (absL (dL8 (wA .u8 16 H)) [] (bOf [((wA .u8 16 H),(22,(0,0))),((wA .u8 32 K),(27,(0,0))),((wA .u8 12 N),(28,(0,0))),((wA .u8 k12 (([]:List Int) ++ [77])),(5,(0,0)))] (some ⟨3,0,none⟩) 0)) j hH hK hN f2_3 f3_4 ) (fun s hh=> ?_) (fun e s hne hh=>absurd hh.1 hne)
  obtain⟨_,j,c,ch,rfl⟩:=hh
  refine runs_seq (sLpn5 H K N k12 (absL (dL8 (wA .u8 16 H)) [] (bOf [((wA .u8 16 H),(22,(0,0))),((wA .u8 32 K),(27,(0,0))),((wA .u8 12 N),(28,(0,0))),((wA .u8 k12 (([]:List Int) ++ [77])),(5,(0,0)))] (some ⟨3,0,none⟩) 0)) j hH hK hN f2_3 f3_4 ) (fun s hh=> ?_) (fun e s hne hh=>absurd hh.1 hne)
  obtain⟨_,j,c,ch,rfl⟩:=hh
  refine(sLpn6 H K N k12 (absL (dL8 (wA .u8 16 H)) [] (bOf [((wA .u8 16 H),(22,(0,0))),((wA .u8 32 K),(27,(0,0))),((wA .u8 12 N),(28,(0,0))),((wA .u8 k12 (([]:List Int) ++ [77])),(5,(0,0)))] (some ⟨3,0,none⟩) 0)) j hH hK hN f2_3 f3_4 ).mono ?_
  rintro e s ⟨rfl,j,c,ch,rfl⟩
  exact⟨rfl,k12,j,c,ch,rfl⟩
theorem sLp_s (a:Array Value) (t:Tq) (bp:Option Addr) (l cp:Nat) (H K N:List Int) (hH:By H) (hK:By K) (hN:By N) (hb:BkOk [(a,t)] bp l cp):Reads Try.prog 4 [(a,t)] [.agg (wA .u8 16 H),.slice bp l cp,.agg (wA .u8 32 K),.agg (wA .u8 12 N)] (.bool true):=by
  have ha: [Value.agg (wA .u8 16 H),.slice bp l cp,.agg (wA .u8 32 K),.agg (wA .u8 12 N)].all (okp (1%big))=true:=by
    have h1:Go.Ev.okp 1 (.slice bp l cp)=true:=hb.okp
    show(true && (Go.Ev.okp 1 (.slice bp l cp) && (true && (true && true))))=true
    rw[h1];rfl
  refine reads_runs (fk:=1) (yty.enf tabQ9 1) Try.func4 (c:=bdy Try.f4) (by kernel_rfl) ⟨by rfl,by decide⟩ (args:= [.agg (wA .u8 16 H),.slice bp l cp,.agg (wA .u8 32 K),.agg (wA .u8 12 N)]) ha (K:=fun e s=>e= .ret∧resS (yty.enf tabQ9 1) s Try.f4.results.toList=some [.bool true]) ?_ (fun e s h=>⟨h.1,_,h.2,rfl⟩)
  by_cases hl:300<l
  · refine (sLpsL a t bp l cp H K N _ (fun _ => undef) hH hK hN hb rfl hl).mono ?_
    rintro e s ⟨rfl,j,c,ch,rfl⟩
    exact⟨rfl,by kernel_rfl⟩
  · refine (sLpsu a t bp l cp H K N _ (fun _ => undef) hH hK hN hb rfl (by omega) hb.len hb.by).mono ?_
    rintro e s ⟨rfl,c9,j,c,ch,rfl⟩
    exact⟨rfl,by kernel_rfl⟩
theorem sLp_n (H K N:List Int) (hH:By H) (hK:By K) (hN:By N):Pure Try.prog 4 #[.agg (wA .u8 16 H),.slice none 0 0,.agg (wA .u8 32 K),.agg (wA .u8 12 N)] (.bool true):=by
  refine pure_runs (E:=(yty.en tabQ9)) Try.func4 (c:=bdy Try.f4) (by kernel_rfl) (args:= [.agg (wA .u8 16 H),.slice none 0 0,.agg (wA .u8 32 K),.agg (wA .u8 12 N)]) (by kernel_rfl) (K:=fun e s=>e= .ret∧resS (yty.en tabQ9) s Try.f4.results.toList=some [.bool true]) ?_ (fun e s h=>⟨h.1,_,h.2,rfl⟩)
  refine(sLpnu H K N (fun _=>undef) hH hK hN).mono ?_
  rintro e s ⟨rfl,c9,j,c,ch,rfl⟩
  exact⟨rfl,by kernel_rfl⟩
end Go.Proofs.Ytnadkbniljejfaa
