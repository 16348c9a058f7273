import Derived.Test.YtnadkbniljejfaaZSDotsSiM1
import Derived.Test.YtnadkbniljejfaaZSDotsSiE1
set_option linter.unusedSimpArgs false
set_option linter.unusedVariables false
/-! siv: the document's dot. -/
namespace Go.Proofs.Ytnadkbniljejfaa
open Go.RowKit Go.Ev
abbrev dPoA_s (L:List Int) (j:Nat→Value):List Value:=([.agg (wA .u8 16 L)] ++ (JU 20))
abbrev dPoA_m (L:List Int):List Mb:= []
abbrev dPoB_s (L:List Int) (j:Nat→Value):List Value:=([j 0,.pointer (some ⟨0,0,none⟩),.pointer (some ⟨1,0,none⟩)] ++ (J j 3 18))
abbrev dPoB_m (L:List Int):List Mb:= [((wA .u8 16 L),(22,(0,0))),((wA .i64 128 []),(47,(0,0)))]
def dPo0p_h (i:Nat):Hn:=⟨0,[],[],[],[]⟩
def dPo0p_b (L:List Int) (j:Nat→Value):List Value:=([.agg (wA .u8 16 L),.pointer (some ⟨0,0,none⟩),.pointer (some ⟨1,0,none⟩)] ++ (JU 18))
theorem dPo0p_0 (L:List Int) (j:Nat→Value):evC (yty.en tabV0) dPo0p_h (cAt [0] (bdy Try.f27)) ⟨dPoA_s L j,dPoA_m L,True,[]⟩=some (.normal,⟨dPo0p_b L j,[((wA .u8 16 L),(22,(0,0))),((wA .i64 128 []),(47,(0,0)))],True,[]⟩):=by kernel_rfl
theorem dPo0 (L:List Int) (j:Nat→Value) (hL:By L)  {c0:Prop} {ch0:List (Option Value)}:Runs Try.prog (cAt [0] (bdy Try.f27)) ⟨dPoA_s L j,dPoA_m L,c0,ch0⟩ (fun e s=>e= .normal∧∃(j:Nat→Value) (c:Prop) (ch:List (Option Value)),s=⟨dPoB_s L j,dPoB_m L,c,ch⟩) 0:=by
  refine(runs_ev mixed _ (dPo0p_0 L j) trivial).mono ?_
  rintro e s ⟨rfl,hs⟩
  refine⟨rfl,fun q=>s.tm.getD q undef,s.c,s.ch,?_⟩
  subst hs
  kernel_rfl
abbrev dPoC_s (L:List Int) (j:Nat→Value):List Value:=([j 0,.pointer (some ⟨0,0,none⟩),.pointer (some ⟨1,0,none⟩),.pointer (some ⟨2,0,none⟩)] ++ (J j 4 17))
abbrev dPoC_m (L:List Int):List Mb:= [((wA .u8 16 L),(22,(0,0))),((wA .i64 128 []),(47,(0,0))),((wA .i64 128 []),(47,(0,0)))]
def dPo1p_h (i:Nat):Hn:=⟨0,[],[],[],[]⟩
def dPo1p_b (L:List Int) (j:Nat→Value):List Value:=([j 0,.pointer (some ⟨0,0,none⟩),.pointer (some ⟨1,0,none⟩),.pointer (some ⟨2,0,none⟩)] ++ (J j 4 17))
theorem dPo1p_0 (L:List Int) (j:Nat→Value):evC (yty.en tabV0) dPo1p_h (cAt [1,0] (bdy Try.f27)) ⟨dPoB_s L j,dPoB_m L,True,[]⟩=some (.normal,⟨dPo1p_b L j,[((wA .u8 16 L),(22,(0,0))),((wA .i64 128 []),(47,(0,0))),((wA .i64 128 []),(47,(0,0)))],True,[]⟩):=by kernel_rfl
theorem dPo1 (L:List Int) (j:Nat→Value) (hL:By L)  {c0:Prop} {ch0:List (Option Value)}:Runs Try.prog (cAt [1,0] (bdy Try.f27)) ⟨dPoB_s L j,dPoB_m L,c0,ch0⟩ (fun e s=>e= .normal∧∃(j:Nat→Value) (c:Prop) (ch:List (Option Value)),s=⟨dPoC_s L j,dPoC_m L,c,ch⟩) 0:=by
  refine(runs_ev mixed _ (dPo1p_0 L j) trivial).mono ?_
  rintro e s ⟨rfl,hs⟩
  refine⟨rfl,fun q=>s.tm.getD q undef,s.c,s.ch,?_⟩
  subst hs
  kernel_rfl
abbrev dPoD_s (L:List Int) (i:Nat) (j:Nat→Value):List Value:=([j 0,.pointer (some ⟨0,0,none⟩),.pointer (some ⟨1,0,none⟩),.pointer (some ⟨2,0,none⟩),.int .i64 ((i:Nat):Int)] ++ (J j 5 16))
abbrev dPoD_m (L:List Int) (i:Nat):List Mb:= [((wA .u8 16 L),(22,(0,0))),((wA .i64 128 []),(47,(0,0))),((wA .i64 128 (pL (zm (nL L) i))),(47,(0,0)))]
theorem po_val {L:List Int} (h:By L) {i:Nat} (hi:i<128):Int.tmod (IntKind.i64.wrap ((L.getD (i / 8) 0) / 2 ^ (min (Int.toNat ((i%8:Nat):Int)) 8))) 2=bt (nL L) i:=by
  obtain⟨e,hb⟩:=by_nat h (i / 8)
  have hr:i%8<8:=Nat.mod_lt _ (by decide)
  have e1:L.getD (i / 8) 0 / 2 ^ (min (Int.toNat ((i%8:Nat):Int)) 8)=(((L.getD (i / 8) 0).toNat / 2 ^ (i%8):Nat):Int):=by
    rw[Int.toNat_natCast,Nat.min_eq_left (by omega)]
    generalize(L.getD (i / 8) 0).toNat=b at e
    rw[e]
    have:(2:Int) ^ (i%8)=((2 ^ (i%8):Nat):Int):=by simp
    rw[this];rfl
  have hz:(L.getD (i / 8) 0).toNat / 2 ^ (i%8)<256:=Nat.lt_of_le_of_lt (Nat.div_le_self _ _) hb
  unfold bt
  rw[e1,nL_bit h hi]
  generalize(L.getD (i / 8) 0).toNat / 2 ^ (i%8)=z at hz
  rw[IntKind.wrap_i64,show(((z:Nat):Int)+9223372036854775808)%18446744073709551616 - 9223372036854775808=((z:Nat):Int) by omega]
  rw[show(2:Int)=((2:Nat):Int) from rfl,tmodN]
  by_cases h1:z%2=1
  · rw[h1];rfl
  · rw[show z%2=0 by omega];rfl
def dPo2p_h (i:Nat):Hn:=⟨0,[],[],[],[]⟩
def dPo2p_b (L:List Int) (i:Nat) (j:Nat→Value):List Value:=([j 0,.pointer (some ⟨0,0,none⟩),.pointer (some ⟨1,0,none⟩),.pointer (some ⟨2,0,none⟩),.int .i64 ((i+1:Nat):Int),.int .i64 ((i:Nat):Int),.bool true,.int .i64 ((i:Nat):Int),.int .i64 ((i+1:Nat):Int),.int .i64 ((i:Nat):Int),.int .i64 ((i:Nat):Int),.int .i64 ((i / 8:Nat):Int),.pointer (some ⟨0,0+Int.toNat ((i / 8:Nat):Int)*1,none⟩),.int .u8 (L.getD (i / 8) 0),.int .i64 ((i:Nat):Int),.int .i64 ((i%8:Nat):Int),.int .u8 ((L.getD (i / 8) 0) / 2 ^ (min (Int.toNat ((i%8:Nat):Int)) 8)),.int .i64 (IntKind.i64.wrap ((L.getD (i / 8) 0) / 2 ^ (min (Int.toNat ((i%8:Nat):Int)) 8))),.int .i64 (Int.tmod (IntKind.i64.wrap ((L.getD (i / 8) 0) / 2 ^ (min (Int.toNat ((i%8:Nat):Int)) 8))) 2),.pointer (some ⟨2,0+Int.toNat ((i:Nat):Int)*1,none⟩),j 20])
theorem dPo2p_0 (L:List Int) (i:Nat) (j:Nat→Value):evC (yty.en tabV0) dPo2p_h (cAt [1,1,0,1,0,0] (bdy Try.f27)) ⟨dPoD_s L i j,dPoD_m L i,True,[some (.bool true),some (.int .i64 ((i / 8:Nat):Int)),some (.int .u8 (L.getD (i / 8) 0)),some (.int .i64 ((i%8:Nat):Int)),none,none,none,some (.agg (wA .i64 128 (pL (zm (nL L) (i+1))))),some (.int .i64 ((i+1:Nat):Int))]⟩=some (.normal,⟨dPo2p_b L i j,[((wA .u8 16 L),(22,(0,0))),((wA .i64 128 []),(47,(0,0))),((wA .i64 128 (pL (zm (nL L) (i+1)))),(47,(0,0)))],(((((((((((((((((True∧True)∧(True∧(decide (((i:Nat):Int)<128))=true))∧True)∧True)∧(((8:Int)≠0)∧(IntKind.i64.wrap (Int.tdiv ((i:Nat):Int) 8))=((i / 8:Nat):Int)))∧(0≤((i / 8:Nat):Int)∧((i / 8:Nat):Int)<((16:Nat):Int)))∧(((wA .u8 16 L)[(0+Int.toNat ((i / 8:Nat):Int)*1)]? =some (.int .u8 (L.getD (i / 8) 0)))∧(L.getD (i / 8) 0)=(L.getD (i / 8) 0)))∧True)∧(((8:Int)≠0)∧(Int.tmod ((i:Nat):Int) 8)=((i%8:Nat):Int)))∧(0≤((i%8:Nat):Int)))∧True)∧((2:Int)≠0))∧(0≤((i:Nat):Int)∧((i:Nat):Int)<((128:Nat):Int)))∧((0+Int.toNat ((i:Nat):Int)*1)<(wA .i64 128 (pL (zm (nL L) i))).size∧(wA .i64 128 (pL (zm (nL L) i))).setIfInBounds (0+Int.toNat ((i:Nat):Int)*1) (.int .i64 (Int.tmod (IntKind.i64.wrap ((L.getD (i / 8) 0) / 2 ^ (min (Int.toNat ((i%8:Nat):Int)) 8))) 2))=(wA .i64 128 (pL (zm (nL L) (i+1))))))∧True)∧(True∧(IntKind.i64.wrap (((i:Nat):Int)+1))=((i+1:Nat):Int)))∧True),[]⟩):=by kernel_rfl
theorem dPo2 (L:List Int) (i:Nat) (j:Nat→Value) (hL:By L) (hi:i≤128) (hlt:i<128) {c0:Prop} {ch0:List (Option Value)}:Runs Try.prog (cAt [1,1,0,1,0,0] (bdy Try.f27)) ⟨dPoD_s L i j,dPoD_m L i,c0,ch0⟩ (fun e s=>e= .normal∧∃(j:Nat→Value) (c:Prop) (ch:List (Option Value)),((i+1)≤128)∧s=⟨dPoD_s L (i+1) j,dPoD_m L (i+1),c,ch⟩) 0:=by
  have h0:(decide (((i:Nat):Int)<128))=true:=(decide_eq_true (by omega))
  refine(runs_ev mixed _ (dPo2p_0 L i j) ⟨⟨⟨⟨⟨⟨⟨⟨⟨⟨⟨⟨⟨⟨⟨⟨⟨trivial,trivial⟩,⟨trivial,h0⟩⟩,trivial⟩,trivial⟩,⟨(by decide),(by exact tdivN_i64 i 8 (by omega))⟩⟩,(by(try simp only[Int.toNat_natCast,wA_size]);omega)⟩,⟨(wA_get (by omega) (by omega)),rfl⟩⟩,trivial⟩,⟨(by decide),(by exact tmodN i 8)⟩⟩,(by omega)⟩,trivial⟩,(by decide)⟩,(by(try simp only[Int.toNat_natCast,wA_size]);omega)⟩,pL_put hlt (by rw[Int.toNat_natCast];omega) (fun k _=>bt_zm _ _ (po_val hL hlt) k)⟩,trivial⟩,⟨trivial,(by rw[IntKind.wrap_i64];omega)⟩⟩,trivial⟩).mono ?_
  rintro e s ⟨rfl,hs⟩
  refine⟨rfl,fun q=>s.tm.getD q undef,s.c,s.ch,by omega,?_⟩
  subst hs
  kernel_rfl
abbrev dPoE_s (L:List Int) (i:Nat) (j:Nat→Value):List Value:=([j 0,.pointer (some ⟨0,0,none⟩),.pointer (some ⟨1,0,none⟩),.pointer (some ⟨2,0,none⟩),.int .i64 ((i:Nat):Int)] ++ (J j 5 16))
abbrev dPoE_m (L:List Int) (i:Nat):List Mb:= [((wA .u8 16 L),(22,(0,0))),((wA .i64 128 []),(47,(0,0))),((wA .i64 128 (pL (nL L))),(47,(0,0)))]
def dPo3p_h (i:Nat):Hn:=⟨0,[],[],[],[]⟩
def dPo3p_b (L:List Int) (i:Nat) (j:Nat→Value):List Value:=([j 0,.pointer (some ⟨0,0,none⟩),.pointer (some ⟨1,0,none⟩),.pointer (some ⟨2,0,none⟩),.int .i64 ((i:Nat):Int),.int .i64 ((i:Nat):Int),.bool false] ++ (J j 7 14))
theorem dPo3p_0 (L:List Int) (i:Nat) (j:Nat→Value):evC (yty.en tabV0) dPo3p_h (cAt [1,1,0,1,0,0] (bdy Try.f27)) ⟨dPoD_s L i j,dPoD_m L i,True,[some (.bool false)]⟩=some ((.exit 0),⟨dPo3p_b L i j,[((wA .u8 16 L),(22,(0,0))),((wA .i64 128 []),(47,(0,0))),((wA .i64 128 (pL (zm (nL L) i))),(47,(0,0)))],((True∧True)∧(True∧(decide (((i:Nat):Int)<128))=false)),[]⟩):=by kernel_rfl
theorem dPo3 (L:List Int) (i:Nat) (j:Nat→Value) (hL:By L) (hi:i≤128) (hge:¬ i<128) {c0:Prop} {ch0:List (Option Value)}:Runs Try.prog (cAt [1,1,0,1,0,0] (bdy Try.f27)) ⟨dPoD_s L i j,dPoD_m L i,c0,ch0⟩ (fun e s=>e=(.exit 0)∧∃(j:Nat→Value) (c:Prop) (ch:List (Option Value)),s=⟨dPoE_s L i j,dPoE_m L i,c,ch⟩) 0:=by
  have h0:(decide (((i:Nat):Int)<128))=false:=(decide_eq_false (by omega))
  refine(runs_ev mixed _ (dPo3p_0 L i j) ⟨⟨trivial,trivial⟩,⟨trivial,h0⟩⟩).mono ?_
  rintro e s ⟨rfl,hs⟩
  refine⟨rfl,fun q=>s.tm.getD q undef,s.c,s.ch,?_⟩
  subst hs
  rw[show i=128 by omega,zm_eq,pL_mod]
  kernel_rfl
def dPo4p_h (i:Nat):Hn:=⟨0,[],[],[],[]⟩
def dPo4p_b (L:List Int) (j:Nat→Value):List Value:=([j 0,.pointer (some ⟨0,0,none⟩),.pointer (some ⟨1,0,none⟩),.pointer (some ⟨2,0,none⟩),.int .i64 0] ++ (J j 5 16))
theorem dPo4p_0 (L:List Int) (j:Nat→Value):evC (yty.en tabV0) dPo4p_h (cAt [1,1,0,0] (bdy Try.f27)) ⟨dPoC_s L j,dPoC_m L,True,[]⟩=some (.normal,⟨dPo4p_b L j,[((wA .u8 16 L),(22,(0,0))),((wA .i64 128 []),(47,(0,0))),((wA .i64 128 []),(47,(0,0)))],(True∧True),[]⟩):=by kernel_rfl
theorem dPo4 (L:List Int) (j:Nat→Value) (hL:By L)  {c0:Prop} {ch0:List (Option Value)}:Runs Try.prog (cAt [1,1,0,0] (bdy Try.f27)) ⟨dPoC_s L j,dPoC_m L,c0,ch0⟩ (fun e s=>e= .normal∧∃(j:Nat→Value) (c:Prop) (ch:List (Option Value)),(0≤128)∧s=⟨dPoD_s L 0 j,dPoD_m L 0,c,ch⟩) 0:=by
  refine(runs_ev mixed _ (dPo4p_0 L j) ⟨trivial,trivial⟩).mono ?_
  rintro e s ⟨rfl,hs⟩
  refine⟨rfl,fun q=>s.tm.getD q undef,s.c,s.ch,by omega,?_⟩
  subst hs
  kernel_rfl
theorem dPo5L (L:List Int) (j:Nat→Value) (hL:By L) (ihi:0≤128)  {c0:Prop} {ch0:List (Option Value)}:Runs Try.prog (.loop (cAt [1,1,0,1,0,0] (bdy Try.f27))) ⟨dPoD_s L 0 j,dPoD_m L 0,c0,ch0⟩ (fun e s=>e= .exit 0∧∃(i:Nat) (j:Nat→Value) (c:Prop) (ch:List (Option Value)),s=⟨dPoE_s L i j,dPoE_m L i,c,ch⟩) 0:=by
  refine runs_loop (fun M s=>∃(i:Nat) (j:Nat→Value) (c:Prop) (ch:List (Option Value)),(i≤128)∧M=128 - i∧s=⟨dPoD_s L i j,dPoD_m L i,c,ch⟩) (128 - 0) ⟨0,j,c0,ch0,ihi,rfl,rfl⟩ ?_
  rintro M s ⟨i,j,c,ch,hi,rfl,rfl⟩
  by_cases hlt:i<128
  · skip
    refine(dPo2 L i j hL hi hlt).mono ?_
    rintro e s ⟨rfl,j,c,ch,f1,rfl⟩
    exact .inl ⟨rfl,128 - (i+1),by omega,⟨(i+1),j,c,ch,f1,rfl,rfl⟩⟩
  · refine (dPo3 L i j hL hi hlt).mono ?_
    intro e s hh
    obtain⟨rfl,j,c,ch,rfl⟩:=hh
    exact .inr ⟨by simp,rfl,i,j,c,ch,rfl⟩
theorem dPo5 (L:List Int) (j:Nat→Value) (hL:By L) (ihi:0≤128)  {c0:Prop} {ch0:List (Option Value)}:Runs Try.prog (cAt [1,1,0,1] (bdy Try.f27)) ⟨dPoD_s L 0 j,dPoD_m L 0,c0,ch0⟩ (fun e s=>e= .normal∧∃(i:Nat) (j:Nat→Value) (c:Prop) (ch:List (Option Value)),s=⟨dPoE_s L i j,dPoE_m L i,c,ch⟩) 0:=by
  rw[show(cAt [1,1,0,1] (bdy Try.f27))= .block 0 (.loop (cAt [1,1,0,1,0,0] (bdy Try.f27))) from by kernel_rfl]
  refine runs_block (dPo5L L j hL ihi ) ?_
  rintro e s ⟨rfl,hh⟩
  exact .inl ⟨rfl,rfl,hh⟩
theorem dPo6 (L:List Int) (j:Nat→Value) (hL:By L)  {c0:Prop} {ch0:List (Option Value)}:Runs Try.prog (cAt [1,1,0] (bdy Try.f27)) ⟨dPoC_s L j,dPoC_m L,c0,ch0⟩ (fun e s=>e= .normal∧∃(i1:Nat) (j:Nat→Value) (c:Prop) (ch:List (Option Value)),s=⟨dPoE_s L i1 j,dPoE_m L i1,c,ch⟩) 0:=by
  rw[show(cAt [1,1,0] (bdy Try.f27))=(.seq (cAt [1,1,0,0] (bdy Try.f27)) (cAt [1,1,0,1] (bdy Try.f27))) from by kernel_rfl]
  refine runs_seq (dPo4 L j hL ) (fun s hh=> ?_) (fun e s hne hh=>absurd hh.1 hne)
  obtain⟨_,j,c,ch,f0_1,rfl⟩:=hh
  refine(dPo5 L j hL f0_1 ).mono ?_
  rintro e s ⟨rfl,i1,j,c,ch,rfl⟩
  exact⟨rfl,i1,j,c,ch,rfl⟩
abbrev dPoF_s (L:List Int) (i:Nat) (j:Nat→Value):List Value:=([j 0,j 1,.pointer (some ⟨1,0,none⟩)] ++ (J j 3 18))
abbrev dPoF_m (L:List Int) (i:Nat):List Mb:= [((wA .u8 16 L),(22,(0,0))),((wA .i64 128 (pL (nL L))),(47,(0,0))),((wA .i64 128 (pL (nL L))),(47,(0,0)))]
def dPo7p_h (i:Nat):Hn:=⟨0,[],[],[],[]⟩
def dPo7p_b (L:List Int) (i:Nat) (j:Nat→Value):List Value:=([j 0,.pointer (some ⟨0,0,none⟩),.pointer (some ⟨1,0,none⟩),.pointer (some ⟨2,0,none⟩),.int .i64 ((i:Nat):Int)] ++ (J j 5 15 ++ ([.agg (wA .i64 128 (pL (nL L)))])))
theorem dPo7p_0 (L:List Int) (i:Nat) (j:Nat→Value):evC (yty.en tabV0) dPo7p_h (cAt [1,1,1] (bdy Try.f27)) ⟨dPoE_s L i j,dPoE_m L i,True,[]⟩=some (.ret,⟨dPo7p_b L i j,[((wA .u8 16 L),(22,(0,0))),((wA .i64 128 (pL (nL L))),(47,(0,0))),((wA .i64 128 (pL (nL L))),(47,(0,0)))],((True∧True)∧((wA .i64 128 (pL (nL L))).all (fun v=>v.oneCell')=true)),[]⟩):=by kernel_rfl
theorem dPo7 (L:List Int) (i:Nat) (j:Nat→Value) (hL:By L)  {c0:Prop} {ch0:List (Option Value)}:Runs Try.prog (cAt [1,1,1] (bdy Try.f27)) ⟨dPoE_s L i j,dPoE_m L i,c0,ch0⟩ (fun e s=>e= .ret∧∃(j:Nat→Value) (c:Prop) (ch:List (Option Value)),s=⟨dPoF_s L i j,dPoF_m L i,c,ch⟩) 0:=by
  refine(runs_ev mixed _ (dPo7p_0 L i j) ⟨⟨trivial,trivial⟩,(wA_one _ _ _)⟩).mono ?_
  rintro e s ⟨rfl,hs⟩
  refine⟨rfl,fun q=>s.tm.getD q undef,s.c,s.ch,?_⟩
  subst hs
  kernel_rfl
theorem dPou (L:List Int) (j:Nat→Value) (hL:By L)  {c0:Prop} {ch0:List (Option Value)}:Runs Try.prog (cAt [] (bdy Try.f27)) ⟨dPoA_s L j,dPoA_m L,c0,ch0⟩ (fun e s=>e= .ret∧∃(i12:Nat) (j:Nat→Value) (c:Prop) (ch:List (Option Value)),s=⟨dPoF_s L i12 j,dPoF_m L i12,c,ch⟩) 0:=by
  rw[show(cAt [] (bdy Try.f27))=(.seq (cAt [0] (bdy Try.f27)) (.seq (cAt [1,0] (bdy Try.f27)) (.seq (cAt [1,1,0] (bdy Try.f27)) (cAt [1,1,1] (bdy Try.f27))))) from by kernel_rfl]
  refine runs_seq (dPo0 L j hL ) (fun s hh=> ?_) (fun e s hne hh=>absurd hh.1 hne)
  obtain⟨_,j,c,ch,rfl⟩:=hh
  refine runs_seq (dPo1 L j hL ) (fun s hh=> ?_) (fun e s hne hh=>absurd hh.1 hne)
  obtain⟨_,j,c,ch,rfl⟩:=hh
  refine runs_seq (dPo6 L j hL ) (fun s hh=> ?_) (fun e s hne hh=>absurd hh.1 hne)
  obtain⟨_,i12,j,c,ch,rfl⟩:=hh
  refine(dPo7 L i12 j hL ).mono ?_
  rintro e s ⟨rfl,j,c,ch,rfl⟩
  exact⟨rfl,i12,j,c,ch,rfl⟩
theorem dPo_c (L:List Int) (hL:By L):Pure Try.prog 27 #[.agg (wA .u8 16 L)] (.agg (wA .i64 128 (pL (nL L)))):=by
  refine pure_runs (E:=(yty.en tabV0)) Try.func27 (c:=bdy Try.f27) (by kernel_rfl) (args:= [.agg (wA .u8 16 L)]) (by kernel_rfl) (K:=fun e s=>e= .ret∧resS (yty.en tabV0) s Try.f27.results.toList=some [.agg (wA .i64 128 (pL (nL L)))]) ?_ (fun e s h=>⟨h.1,_,h.2,rfl⟩)
  refine(dPou L (fun _=>undef) hL).mono ?_
  rintro e s ⟨rfl,i,j,c,ch,rfl⟩
  exact⟨rfl,by kernel_rfl⟩
abbrev dTmA_s (a b:Nat) (j:Nat→Value):List Value:=([.agg (wA .i64 128 (pL a)),.agg (wA .i64 128 (pL b))] ++ (JU 86))
abbrev dTmA_m (a b:Nat):List Mb:= []
abbrev dTmB_s (a b:Nat) (j:Nat→Value):List Value:=([j 0,j 1,.pointer (some ⟨0,0,none⟩),.pointer (some ⟨1,0,none⟩),.pointer (some ⟨2,0,none⟩)] ++ (J j 5 83))
abbrev dTmB_m (a b:Nat):List Mb:= [((wA .i64 128 (pL a)),(47,(0,0))),((wA .i64 128 (pL b)),(47,(0,0))),((wA .i64 128 []),(47,(0,0)))]
def dTm0p_h (i:Nat):Hn:=if i=9 then⟨13,[],[],[],[]⟩ else⟨0,[],[],[],[]⟩
def dTm0p_b (a b:Nat) (j:Nat→Value):List Value:=([.agg (wA .i64 128 (pL a)),.agg (wA .i64 128 (pL b)),.pointer (some ⟨0,0,none⟩),.pointer (some ⟨1,0,none⟩),.pointer (some ⟨2,0,none⟩)] ++ (JU 83))
theorem dTm0p_0 (a b:Nat) (j:Nat→Value):evC (yty.en tabV0) dTm0p_h (cAt [0] (bdy Try.f28)) ⟨dTmA_s a b j,dTmA_m a b,True,[]⟩=some (.normal,⟨dTm0p_b a b j,[((wA .i64 128 (pL a)),(47,(0,0))),((wA .i64 128 (pL b)),(47,(0,0))),((wA .i64 128 []),(47,(0,0)))],True,[]⟩):=by kernel_rfl
theorem dTm0 (a b:Nat) (j:Nat→Value) (ha:a<2 ^ 128) (hb:b<2 ^ 128)  {c0:Prop} {ch0:List (Option Value)}:Runs Try.prog (cAt [0] (bdy Try.f28)) ⟨dTmA_s a b j,dTmA_m a b,c0,ch0⟩ (fun e s=>e= .normal∧∃(j:Nat→Value) (c:Prop) (ch:List (Option Value)),s=⟨dTmB_s a b j,dTmB_m a b,c,ch⟩) 0:=by
  refine(runs_ev mixed _ (dTm0p_0 a b j) trivial).mono ?_
  rintro e s ⟨rfl,hs⟩
  refine⟨rfl,fun q=>s.tm.getD q undef,s.c,s.ch,?_⟩
  subst hs
  kernel_rfl
abbrev dTmC_s (a b:Nat) (j:Nat→Value):List Value:=([j 0,j 1,.pointer (some ⟨0,0,none⟩),.pointer (some ⟨1,0,none⟩),.pointer (some ⟨2,0,none⟩),.pointer (some ⟨3,0,none⟩)] ++ (J j 6 82))
abbrev dTmC_m (a b:Nat):List Mb:= [((wA .i64 128 (pL a)),(47,(0,0))),((wA .i64 128 (pL b)),(47,(0,0))),((wA .i64 128 []),(47,(0,0))),((wA .i64 255 []),(63,(0,0)))]
def dTm1p_h (i:Nat):Hn:=if i=9 then⟨13,[],[],[],[]⟩ else⟨0,[],[],[],[]⟩
def dTm1p_b (a b:Nat) (j:Nat→Value):List Value:=([j 0,j 1,.pointer (some ⟨0,0,none⟩),.pointer (some ⟨1,0,none⟩),.pointer (some ⟨2,0,none⟩),.pointer (some ⟨3,0,none⟩)] ++ (J j 6 82))
theorem dTm1p_0 (a b:Nat) (j:Nat→Value):evC (yty.en tabV0) dTm1p_h (cAt [1,0] (bdy Try.f28)) ⟨dTmB_s a b j,dTmB_m a b,True,[]⟩=some (.normal,⟨dTm1p_b a b j,[((wA .i64 128 (pL a)),(47,(0,0))),((wA .i64 128 (pL b)),(47,(0,0))),((wA .i64 128 []),(47,(0,0))),((wA .i64 255 []),(63,(0,0)))],True,[]⟩):=by kernel_rfl
theorem dTm1 (a b:Nat) (j:Nat→Value) (ha:a<2 ^ 128) (hb:b<2 ^ 128)  {c0:Prop} {ch0:List (Option Value)}:Runs Try.prog (cAt [1,0] (bdy Try.f28)) ⟨dTmB_s a b j,dTmB_m a b,c0,ch0⟩ (fun e s=>e= .normal∧∃(j:Nat→Value) (c:Prop) (ch:List (Option Value)),s=⟨dTmC_s a b j,dTmC_m a b,c,ch⟩) 0:=by
  refine(runs_ev mixed _ (dTm1p_0 a b j) trivial).mono ?_
  rintro e s ⟨rfl,hs⟩
  refine⟨rfl,fun q=>s.tm.getD q undef,s.c,s.ch,?_⟩
  subst hs
  kernel_rfl
abbrev dTmD_s (a b:Nat) (i m:Nat) (j:Nat→Value):List Value:=([j 0,j 1,.pointer (some ⟨0,0,none⟩),.pointer (some ⟨1,0,none⟩),.pointer (some ⟨2,0,none⟩),.pointer (some ⟨3,0,none⟩),.int .i64 ((i:Nat):Int)] ++ (J j 7 81))
abbrev dTmD_m (a b:Nat) (i m:Nat):List Mb:= [((wA .i64 128 (pL a)),(47,(0,0))),((wA .i64 128 (pL b)),(47,(0,0))),((wA .i64 128 []),(47,(0,0))),((wA .i64 255 (pW m)),(63,(0,0)))]
def dTm2p_h (i:Nat):Hn:=if i=9 then⟨13,[],[],[],[]⟩ else⟨0,[],[],[],[]⟩
def dTm2p_b (a b:Nat) (j:Nat→Value):List Value:=([j 0,j 1,.pointer (some ⟨0,0,none⟩),.pointer (some ⟨1,0,none⟩),.pointer (some ⟨2,0,none⟩),.pointer (some ⟨3,0,none⟩),.int .i64 0] ++ (J j 7 81))
theorem dTm2p_0 (a b:Nat) (j:Nat→Value):evC (yty.en tabV0) dTm2p_h (cAt [1,1,0,0] (bdy Try.f28)) ⟨dTmC_s a b j,dTmC_m a b,True,[]⟩=some (.normal,⟨dTm2p_b a b j,[((wA .i64 128 (pL a)),(47,(0,0))),((wA .i64 128 (pL b)),(47,(0,0))),((wA .i64 128 []),(47,(0,0))),((wA .i64 255 []),(63,(0,0)))],(True∧True),[]⟩):=by kernel_rfl
theorem dTm2 (a b:Nat) (j:Nat→Value) (ha:a<2 ^ 128) (hb:b<2 ^ 128)  {c0:Prop} {ch0:List (Option Value)}:Runs Try.prog (cAt [1,1,0,0] (bdy Try.f28)) ⟨dTmC_s a b j,dTmC_m a b,c0,ch0⟩ (fun e s=>e= .normal∧∃(j:Nat→Value) (c:Prop) (ch:List (Option Value)),(0=cm a b 0)∧(0≤128)∧s=⟨dTmD_s a b 0 0 j,dTmD_m a b 0 0,c,ch⟩) 0:=by
  refine(runs_ev mixed _ (dTm2p_0 a b j) ⟨trivial,trivial⟩).mono ?_
  rintro e s ⟨rfl,hs⟩
  refine⟨rfl,fun q=>s.tm.getD q undef,s.c,s.ch,rfl,by omega,?_⟩
  subst hs
  rw[pW_0]
  kernel_rfl
def dTm3p_h (i:Nat):Hn:=if i=9 then⟨13,[],[],[],[]⟩ else⟨0,[],[],[],[]⟩
def dTm3p_b (a b:Nat) (i m:Nat) (j:Nat→Value):List Value:=([j 0,j 1,.pointer (some ⟨0,0,none⟩),.pointer (some ⟨1,0,none⟩),.pointer (some ⟨2,0,none⟩),.pointer (some ⟨3,0,none⟩),.int .i64 ((i+1:Nat):Int)] ++ (J j 7 4 ++ ([.int .i64 ((i:Nat):Int),.bool true,.int .i64 ((i:Nat):Int),.int .i64 ((i+1:Nat):Int),.int .i64 ((i:Nat):Int),.pointer (some ⟨0,0+Int.toNat ((i:Nat):Int)*1,none⟩),.int .i64 ((pL a).getD i 0),.bool true] ++ (J j 19 69))))
theorem dTm3p_0 (a b:Nat) (i m:Nat) (j:Nat→Value):evC (yty.en tabV0) dTm3p_h (cAt [1,1,0,1,0,0] (bdy Try.f28)) ⟨dTmD_s a b i m j,dTmD_m a b i m,True,[some (.bool true),some (.int .i64 ((pL a).getD i 0)),some (.bool true),some (.int .i64 ((i+1:Nat):Int))]⟩=some (.normal,⟨dTm3p_b a b i m j,[((wA .i64 128 (pL a)),(47,(0,0))),((wA .i64 128 (pL b)),(47,(0,0))),((wA .i64 128 []),(47,(0,0))),((wA .i64 255 (pW m)),(63,(0,0)))],(((((((((True∧True)∧(True∧(decide (((i:Nat):Int)<128))=true))∧True)∧(0≤((i:Nat):Int)∧((i:Nat):Int)<((128:Nat):Int)))∧(((wA .i64 128 (pL a))[(0+Int.toNat ((i:Nat):Int)*1)]? =some (.int .i64 ((pL a).getD i 0)))∧((pL a).getD i 0)=((pL a).getD i 0)))∧(True∧(decide (((pL a).getD i 0)=0))=true))∧True)∧(True∧(IntKind.i64.wrap (((i:Nat):Int)+1))=((i+1:Nat):Int)))∧True),[]⟩):=by kernel_rfl
theorem dTm3 (a b:Nat) (i m:Nat) (j:Nat→Value) (ha:a<2 ^ 128) (hb:b<2 ^ 128) (hm:m=cm a b i) (hi:i≤128) (hlt:i<128) (hb0:a.testBit i=false) {c0:Prop} {ch0:List (Option Value)}:Runs Try.prog (cAt [1,1,0,1,0,0] (bdy Try.f28)) ⟨dTmD_s a b i m j,dTmD_m a b i m,c0,ch0⟩ (fun e s=>e= .normal∧∃(j:Nat→Value) (c:Prop) (ch:List (Option Value)),(m=cm a b (i+1))∧((i+1)≤128)∧s=⟨dTmD_s a b (i+1) m j,dTmD_m a b (i+1) m,c,ch⟩) 0:=by
  have h0:(decide (((i:Nat):Int)<128))=true:=(decide_eq_true (by omega))
  have h1:(decide (((pL a).getD i 0)=0))=true:=(decide_eq_true (by rw[pL_at hlt];unfold bt;rw[hb0];rfl))
  refine(runs_ev mixed _ (dTm3p_0 a b i m j) ⟨⟨⟨⟨⟨⟨⟨⟨⟨trivial,trivial⟩,⟨trivial,h0⟩⟩,trivial⟩,(by(try simp only[Int.toNat_natCast,wA_size]);omega)⟩,⟨(wA_get (by omega) (by omega)),rfl⟩⟩,⟨trivial,h1⟩⟩,trivial⟩,⟨trivial,(by rw[IntKind.wrap_i64];omega)⟩⟩,trivial⟩).mono ?_
  rintro e s ⟨rfl,hs⟩
  refine⟨rfl,fun q=>s.tm.getD q undef,s.c,s.ch,by rw[hm,cm,hb0];exact(Nat.xor_zero _).symm,by omega,?_⟩
  subst hs
  kernel_rfl
abbrev dTmE_s (a b:Nat) (i m:Nat) (j:Nat→Value):List Value:=([j 0,j 1,.pointer (some ⟨0,0,none⟩),.pointer (some ⟨1,0,none⟩),.pointer (some ⟨2,0,none⟩),.pointer (some ⟨3,0,none⟩),.int .i64 ((i:Nat):Int)] ++ (J j 7 81))
abbrev dTmE_m (a b:Nat) (i m:Nat):List Mb:= [((wA .i64 128 (pL a)),(47,(0,0))),((wA .i64 128 (pL b)),(47,(0,0))),((wA .i64 128 []),(47,(0,0))),((wA .i64 255 (pW m)),(63,(0,0)))]
def dTm4p_h (i:Nat):Hn:=if i=9 then⟨13,[],[],[],[]⟩ else⟨0,[],[],[],[]⟩
def dTm4p_b (a b:Nat) (i m:Nat) (j:Nat→Value):List Value:=([j 0,j 1,.pointer (some ⟨0,0,none⟩),.pointer (some ⟨1,0,none⟩),.pointer (some ⟨2,0,none⟩),.pointer (some ⟨3,0,none⟩),.int .i64 ((i:Nat):Int)] ++ (J j 7 4 ++ ([.int .i64 ((i:Nat):Int),.bool true] ++ (J j 13 75))))
theorem dTm4p_0 (a b:Nat) (i m:Nat) (j:Nat→Value):evC (yty.en tabV0) dTm4p_h (cAt [1,1,0,1,0,0,0] (bdy Try.f28)) ⟨dTmD_s a b i m j,dTmD_m a b i m,True,[some (.bool true)]⟩=some (.normal,⟨dTm4p_b a b i m j,[((wA .i64 128 (pL a)),(47,(0,0))),((wA .i64 128 (pL b)),(47,(0,0))),((wA .i64 128 []),(47,(0,0))),((wA .i64 255 (pW m)),(63,(0,0)))],((True∧True)∧(True∧(decide (((i:Nat):Int)<128))=true)),[]⟩):=by kernel_rfl
theorem dTm4 (a b:Nat) (i m:Nat) (j:Nat→Value) (ha:a<2 ^ 128) (hb:b<2 ^ 128) (hm:m=cm a b i) (hi:i≤128) (hlt:i<128) (hb0:¬ a.testBit i=false) {c0:Prop} {ch0:List (Option Value)}:Runs Try.prog (cAt [1,1,0,1,0,0,0] (bdy Try.f28)) ⟨dTmD_s a b i m j,dTmD_m a b i m,c0,ch0⟩ (fun e s=>e= .normal∧∃(j:Nat→Value) (c:Prop) (ch:List (Option Value)),(i<128)∧(¬ a.testBit i=false)∧s=⟨dTmE_s a b i m j,dTmE_m a b i m,c,ch⟩) 0:=by
  have h0:(decide (((i:Nat):Int)<128))=true:=(decide_eq_true (by omega))
  refine(runs_ev mixed _ (dTm4p_0 a b i m j) ⟨⟨trivial,trivial⟩,⟨trivial,h0⟩⟩).mono ?_
  rintro e s ⟨rfl,hs⟩
  refine⟨rfl,fun q=>s.tm.getD q undef,s.c,s.ch,hlt,hb0,?_⟩
  subst hs
  kernel_rfl
def dTm5p_h (i:Nat):Hn:=if i=9 then⟨13,[],[],[],[]⟩ else⟨0,[],[],[],[]⟩
def dTm5p_b (a b:Nat) (i m:Nat) (j:Nat→Value):List Value:=([j 0,j 1,.pointer (some ⟨0,0,none⟩),.pointer (some ⟨1,0,none⟩),.pointer (some ⟨2,0,none⟩),.pointer (some ⟨3,0,none⟩),.int .i64 ((i:Nat):Int)] ++ (J j 7 8 ++ ([.int .i64 ((i:Nat):Int),.pointer (some ⟨0,0+Int.toNat ((i:Nat):Int)*1,none⟩),.int .i64 ((pL a).getD i 0),.bool false] ++ (J j 19 69))))
theorem dTm5p_0 (a b:Nat) (i m:Nat) (j:Nat→Value):evC (yty.en tabV0) dTm5p_h (cAt [1,1,0,1,0,0,1,0,0,0] (bdy Try.f28)) ⟨dTmE_s a b i m j,dTmE_m a b i m,True,[some (.int .i64 ((pL a).getD i 0)),some (.bool false)]⟩=some (.normal,⟨dTm5p_b a b i m j,[((wA .i64 128 (pL a)),(47,(0,0))),((wA .i64 128 (pL b)),(47,(0,0))),((wA .i64 128 []),(47,(0,0))),((wA .i64 255 (pW m)),(63,(0,0)))],((((True∧True)∧(0≤((i:Nat):Int)∧((i:Nat):Int)<((128:Nat):Int)))∧(((wA .i64 128 (pL a))[(0+Int.toNat ((i:Nat):Int)*1)]? =some (.int .i64 ((pL a).getD i 0)))∧((pL a).getD i 0)=((pL a).getD i 0)))∧(True∧(decide (((pL a).getD i 0)=0))=false)),[]⟩):=by kernel_rfl
theorem dTm5 (a b:Nat) (i m:Nat) (j:Nat→Value) (ha:a<2 ^ 128) (hb:b<2 ^ 128) (hm:m=cm a b i) (hi:i≤128) (hi1:i<128) (hb0:¬ a.testBit i=false)  {c0:Prop} {ch0:List (Option Value)}:Runs Try.prog (cAt [1,1,0,1,0,0,1,0,0,0] (bdy Try.f28)) ⟨dTmE_s a b i m j,dTmE_m a b i m,c0,ch0⟩ (fun e s=>e= .normal∧∃(j:Nat→Value) (c:Prop) (ch:List (Option Value)),s=⟨dTmE_s a b i m j,dTmE_m a b i m,c,ch⟩) 0:=by
  have h0:(decide (((pL a).getD i 0)=0))=false:=(decide_eq_false (by rw[pL_at hi1];unfold bt;rw[tb_of hb0];decide))
  refine(runs_ev mixed _ (dTm5p_0 a b i m j) ⟨⟨⟨⟨trivial,trivial⟩,(by(try simp only[Int.toNat_natCast,wA_size]);omega)⟩,⟨(wA_get (by omega) (by omega)),rfl⟩⟩,⟨trivial,h0⟩⟩).mono ?_
  rintro e s ⟨rfl,hs⟩
  refine⟨rfl,fun q=>s.tm.getD q undef,s.c,s.ch,?_⟩
  subst hs
  kernel_rfl
abbrev dTmF_s (a b:Nat) (i m:Nat) (k:Nat) (j:Nat→Value):List Value:=([j 0,j 1,.pointer (some ⟨0,0,none⟩),.pointer (some ⟨1,0,none⟩),.pointer (some ⟨2,0,none⟩),.pointer (some ⟨3,0,none⟩),.int .i64 ((i:Nat):Int),.int .i64 ((k:Nat):Int)] ++ (J j 8 80))
abbrev dTmF_m (a b:Nat) (i m:Nat) (k:Nat):List Mb:= [((wA .i64 128 (pL a)),(47,(0,0))),((wA .i64 128 (pL b)),(47,(0,0))),((wA .i64 128 []),(47,(0,0))),((wA .i64 255 (pW (m ^^^ ((b%2 ^ k) <<< i)))),(63,(0,0)))]
def dTm6p_h (i:Nat):Hn:=if i=9 then⟨13,[],[],[],[]⟩ else⟨0,[],[],[],[]⟩
def dTm6p_b (a b:Nat) (i m:Nat) (j:Nat→Value):List Value:=([j 0,j 1,.pointer (some ⟨0,0,none⟩),.pointer (some ⟨1,0,none⟩),.pointer (some ⟨2,0,none⟩),.pointer (some ⟨3,0,none⟩),.int .i64 ((i:Nat):Int),.int .i64 0] ++ (J j 8 80))
theorem dTm6p_0 (a b:Nat) (i m:Nat) (j:Nat→Value):evC (yty.en tabV0) dTm6p_h (cAt [1,1,0,1,0,0,1,0,0,1,0] (bdy Try.f28)) ⟨dTmE_s a b i m j,dTmE_m a b i m,True,[]⟩=some (.normal,⟨dTm6p_b a b i m j,[((wA .i64 128 (pL a)),(47,(0,0))),((wA .i64 128 (pL b)),(47,(0,0))),((wA .i64 128 []),(47,(0,0))),((wA .i64 255 (pW m)),(63,(0,0)))],(True∧True),[]⟩):=by kernel_rfl
theorem dTm6 (a b:Nat) (i m:Nat) (j:Nat→Value) (ha:a<2 ^ 128) (hb:b<2 ^ 128) (hm:m=cm a b i) (hi:i≤128) (hi1:i<128) (hb0:¬ a.testBit i=false)  {c0:Prop} {ch0:List (Option Value)}:Runs Try.prog (cAt [1,1,0,1,0,0,1,0,0,1,0] (bdy Try.f28)) ⟨dTmE_s a b i m j,dTmE_m a b i m,c0,ch0⟩ (fun e s=>e= .normal∧∃(j:Nat→Value) (c:Prop) (ch:List (Option Value)),(0≤128)∧s=⟨dTmF_s a b i m 0 j,dTmF_m a b i m 0,c,ch⟩) 0:=by
  refine(runs_ev mixed _ (dTm6p_0 a b i m j) ⟨trivial,trivial⟩).mono ?_
  rintro e s ⟨rfl,hs⟩
  refine⟨rfl,fun q=>s.tm.getD q undef,s.c,s.ch,by omega,?_⟩
  subst hs
  rw[show pW m=pW (m ^^^ ((b%2 ^ 0) <<< i)) from by simp[Nat.mod_one]]
  kernel_rfl
def dTm7p_h (i:Nat):Hn:=if i=9 then⟨13,[],[],[],[]⟩ else⟨0,[],[],[],[]⟩
def dTm7p_b (a b:Nat) (i m:Nat) (k:Nat) (j:Nat→Value):List Value:=([j 0,j 1,.pointer (some ⟨0,0,none⟩),.pointer (some ⟨1,0,none⟩),.pointer (some ⟨2,0,none⟩),.pointer (some ⟨3,0,none⟩),.int .i64 ((i:Nat):Int),.int .i64 ((k+1:Nat):Int)] ++ (J j 8 11 ++ ([.int .i64 ((k:Nat):Int),.bool true,.int .i64 ((k:Nat):Int),.int .i64 ((k+1:Nat):Int),.int .i64 ((i:Nat):Int),.int .i64 ((k:Nat):Int),.int .i64 ((i+k:Nat):Int),.int .i64 ((i:Nat):Int),.int .i64 ((k:Nat):Int),.int .i64 ((i+k:Nat):Int),.pointer (some ⟨3,0+Int.toNat ((i+k:Nat):Int)*1,none⟩),.int .i64 ((pW (m ^^^ ((b%2 ^ k) <<< i))).getD (i+k) 0),.int .i64 ((k:Nat):Int),.pointer (some ⟨1,0+Int.toNat ((k:Nat):Int)*1,none⟩),.int .i64 ((pL b).getD k 0),.int .i64 (bits .xor .i64 ((pW (m ^^^ ((b%2 ^ k) <<< i))).getD (i+k) 0) ((pL b).getD k 0)),.pointer (some ⟨3,0+Int.toNat ((i+k:Nat):Int)*1,none⟩)] ++ (J j 36 52))))
theorem dTm7p_0 (a b:Nat) (i m:Nat) (k:Nat) (j:Nat→Value):evC (yty.en tabV0) dTm7p_h (cAt [1,1,0,1,0,0,1,0,0,1,1,0,0] (bdy Try.f28)) ⟨dTmF_s a b i m k j,dTmF_m a b i m k,True,[some (.bool true),some (.int .i64 ((i+k:Nat):Int)),some (.int .i64 ((i+k:Nat):Int)),some (.int .i64 ((pW (m ^^^ ((b%2 ^ k) <<< i))).getD (i+k) 0)),some (.int .i64 ((pL b).getD k 0)),none,some (.agg (wA .i64 255 (pW (m ^^^ ((b%2 ^ (k+1)) <<< i))))),some (.int .i64 ((k+1:Nat):Int))]⟩=some (.normal,⟨dTm7p_b a b i m k j,[((wA .i64 128 (pL a)),(47,(0,0))),((wA .i64 128 (pL b)),(47,(0,0))),((wA .i64 128 []),(47,(0,0))),((wA .i64 255 (pW (m ^^^ ((b%2 ^ (k+1)) <<< i)))),(63,(0,0)))],(((((((((((((((((((True∧True)∧(True∧(decide (((k:Nat):Int)<128))=true))∧True)∧True)∧(True∧(IntKind.i64.wrap (((i:Nat):Int)+((k:Nat):Int)))=((i+k:Nat):Int)))∧True)∧True)∧(True∧(IntKind.i64.wrap (((i:Nat):Int)+((k:Nat):Int)))=((i+k:Nat):Int)))∧(0≤((i+k:Nat):Int)∧((i+k:Nat):Int)<((255:Nat):Int)))∧(((wA .i64 255 (pW (m ^^^ ((b%2 ^ k) <<< i))))[(0+Int.toNat ((i+k:Nat):Int)*1)]? =some (.int .i64 ((pW (m ^^^ ((b%2 ^ k) <<< i))).getD (i+k) 0)))∧((pW (m ^^^ ((b%2 ^ k) <<< i))).getD (i+k) 0)=((pW (m ^^^ ((b%2 ^ k) <<< i))).getD (i+k) 0)))∧True)∧(0≤((k:Nat):Int)∧((k:Nat):Int)<((128:Nat):Int)))∧(((wA .i64 128 (pL b))[(0+Int.toNat ((k:Nat):Int)*1)]? =some (.int .i64 ((pL b).getD k 0)))∧((pL b).getD k 0)=((pL b).getD k 0)))∧True)∧(0≤((i+k:Nat):Int)∧((i+k:Nat):Int)<((255:Nat):Int)))∧((0+Int.toNat ((i+k:Nat):Int)*1)<(wA .i64 255 (pW (m ^^^ ((b%2 ^ k) <<< i)))).size∧(wA .i64 255 (pW (m ^^^ ((b%2 ^ k) <<< i)))).setIfInBounds (0+Int.toNat ((i+k:Nat):Int)*1) (.int .i64 (bits .xor .i64 ((pW (m ^^^ ((b%2 ^ k) <<< i))).getD (i+k) 0) ((pL b).getD k 0)))=(wA .i64 255 (pW (m ^^^ ((b%2 ^ (k+1)) <<< i))))))∧True)∧(True∧(IntKind.i64.wrap (((k:Nat):Int)+1))=((k+1:Nat):Int)))∧True),[]⟩):=by kernel_rfl
theorem dTm7 (a b:Nat) (i m:Nat) (k:Nat) (j:Nat→Value) (ha:a<2 ^ 128) (hb:b<2 ^ 128) (hm:m=cm a b i) (hi:i≤128) (hi1:i<128) (hb0:¬ a.testBit i=false) (hk:k≤128) (hlt:k<128) {c0:Prop} {ch0:List (Option Value)}:Runs Try.prog (cAt [1,1,0,1,0,0,1,0,0,1,1,0,0] (bdy Try.f28)) ⟨dTmF_s a b i m k j,dTmF_m a b i m k,c0,ch0⟩ (fun e s=>e= .normal∧∃(j:Nat→Value) (c:Prop) (ch:List (Option Value)),((k+1)≤128)∧s=⟨dTmF_s a b i m (k+1) j,dTmF_m a b i m (k+1),c,ch⟩) 0:=by
  have h0:(decide (((k:Nat):Int)<128))=true:=(decide_eq_true (by omega))
  refine(runs_ev mixed _ (dTm7p_0 a b i m k j) ⟨⟨⟨⟨⟨⟨⟨⟨⟨⟨⟨⟨⟨⟨⟨⟨⟨⟨⟨trivial,trivial⟩,⟨trivial,h0⟩⟩,trivial⟩,trivial⟩,⟨trivial,(by rw[IntKind.wrap_i64];omega)⟩⟩,trivial⟩,trivial⟩,⟨trivial,(by rw[IntKind.wrap_i64];omega)⟩⟩,(by(try simp only[Int.toNat_natCast,wA_size]);omega)⟩,⟨(wA_get (by omega) (by omega)),rfl⟩⟩,trivial⟩,(by(try simp only[Int.toNat_natCast,wA_size]);omega)⟩,⟨(wA_get (by omega) (by omega)),rfl⟩⟩,trivial⟩,(by(try simp only[Int.toNat_natCast,wA_size]);omega)⟩,pW_put (by omega) (by rw[Int.toNat_natCast];omega) (fun q _=>bt_part m b i k (by rw[pW_at (by omega),pL_at hlt,xbt]) q)⟩,trivial⟩,⟨trivial,(by rw[IntKind.wrap_i64];omega)⟩⟩,trivial⟩).mono ?_
  rintro e s ⟨rfl,hs⟩
  refine⟨rfl,fun q=>s.tm.getD q undef,s.c,s.ch,by omega,?_⟩
  subst hs
  kernel_rfl
abbrev dTmG_s (a b:Nat) (i m:Nat) (k:Nat) (j:Nat→Value):List Value:=([j 0,j 1,.pointer (some ⟨0,0,none⟩),.pointer (some ⟨1,0,none⟩),.pointer (some ⟨2,0,none⟩),.pointer (some ⟨3,0,none⟩),.int .i64 ((i:Nat):Int)] ++ (J j 7 81))
abbrev dTmG_m (a b:Nat) (i m:Nat) (k:Nat):List Mb:= [((wA .i64 128 (pL a)),(47,(0,0))),((wA .i64 128 (pL b)),(47,(0,0))),((wA .i64 128 []),(47,(0,0))),((wA .i64 255 (pW (m ^^^ (b <<< i)))),(63,(0,0)))]
def dTm8p_h (i:Nat):Hn:=if i=9 then⟨13,[],[],[],[]⟩ else⟨0,[],[],[],[]⟩
def dTm8p_b (a b:Nat) (i m:Nat) (k:Nat) (j:Nat→Value):List Value:=([j 0,j 1,.pointer (some ⟨0,0,none⟩),.pointer (some ⟨1,0,none⟩),.pointer (some ⟨2,0,none⟩),.pointer (some ⟨3,0,none⟩),.int .i64 ((i:Nat):Int),.int .i64 ((k:Nat):Int)] ++ (J j 8 11 ++ ([.int .i64 ((k:Nat):Int),.bool false] ++ (J j 21 67))))
theorem dTm8p_0 (a b:Nat) (i m:Nat) (k:Nat) (j:Nat→Value):evC (yty.en tabV0) dTm8p_h (cAt [1,1,0,1,0,0,1,0,0,1,1,0,0] (bdy Try.f28)) ⟨dTmF_s a b i m k j,dTmF_m a b i m k,True,[some (.bool false)]⟩=some ((.exit 2),⟨dTm8p_b a b i m k j,[((wA .i64 128 (pL a)),(47,(0,0))),((wA .i64 128 (pL b)),(47,(0,0))),((wA .i64 128 []),(47,(0,0))),((wA .i64 255 (pW (m ^^^ ((b%2 ^ k) <<< i)))),(63,(0,0)))],((True∧True)∧(True∧(decide (((k:Nat):Int)<128))=false)),[]⟩):=by kernel_rfl
theorem dTm8 (a b:Nat) (i m:Nat) (k:Nat) (j:Nat→Value) (ha:a<2 ^ 128) (hb:b<2 ^ 128) (hm:m=cm a b i) (hi:i≤128) (hi1:i<128) (hb0:¬ a.testBit i=false) (hk:k≤128) (hge:¬ k<128) {c0:Prop} {ch0:List (Option Value)}:Runs Try.prog (cAt [1,1,0,1,0,0,1,0,0,1,1,0,0] (bdy Try.f28)) ⟨dTmF_s a b i m k j,dTmF_m a b i m k,c0,ch0⟩ (fun e s=>e=(.exit 2)∧∃(j:Nat→Value) (c:Prop) (ch:List (Option Value)),s=⟨dTmG_s a b i m k j,dTmG_m a b i m k,c,ch⟩) 0:=by
  have h0:(decide (((k:Nat):Int)<128))=false:=(decide_eq_false (by omega))
  refine(runs_ev mixed _ (dTm8p_0 a b i m k j) ⟨⟨trivial,trivial⟩,⟨trivial,h0⟩⟩).mono ?_
  rintro e s ⟨rfl,hs⟩
  refine⟨rfl,fun q=>s.tm.getD q undef,s.c,s.ch,?_⟩
  subst hs
  rw[show k=128 by omega,Nat.mod_eq_of_lt hb]
  kernel_rfl
theorem dTm9L (a:Nat) (b:Nat) (i:Nat) (m:Nat) (j:Nat→Value) (ha:a<2 ^ 128) (hb:b<2 ^ 128) (hm:m=cm a b i) (hi:i≤128) (hi1:i<128) (hb0:¬ a.testBit i=false) (ihk:0≤128)  {c0:Prop} {ch0:List (Option Value)}:Runs Try.prog (.loop (cAt [1,1,0,1,0,0,1,0,0,1,1,0,0] (bdy Try.f28))) ⟨dTmF_s a b i m 0 j,dTmF_m a b i m 0,c0,ch0⟩ (fun e s=>e= .exit 2∧∃(k:Nat) (j:Nat→Value) (c:Prop) (ch:List (Option Value)),s=⟨dTmG_s a b i m k j,dTmG_m a b i m k,c,ch⟩) 0:=by
  refine runs_loop (fun M s=>∃(k:Nat) (j:Nat→Value) (c:Prop) (ch:List (Option Value)),(k≤128)∧M=128 - k∧s=⟨dTmF_s a b i m k j,dTmF_m a b i m k,c,ch⟩) (128 - 0) ⟨0,j,c0,ch0,ihk,rfl,rfl⟩ ?_
  rintro M s ⟨k,j,c,ch,hk,rfl,rfl⟩
  by_cases hlt:k<128
  · skip
    refine(dTm7 a b i m k j ha hb hm hi hi1 hb0 hk hlt).mono ?_
    rintro e s ⟨rfl,j,c,ch,f6,rfl⟩
    exact .inl ⟨rfl,128 - (k+1),by omega,⟨(k+1),j,c,ch,f6,rfl,rfl⟩⟩
  · refine (dTm8 a b i m k j ha hb hm hi hi1 hb0 hk hlt).mono ?_
    intro e s hh
    obtain⟨rfl,j,c,ch,rfl⟩:=hh
    exact .inr ⟨by simp,rfl,k,j,c,ch,rfl⟩
theorem dTm9 (a:Nat) (b:Nat) (i:Nat) (m:Nat) (j:Nat→Value) (ha:a<2 ^ 128) (hb:b<2 ^ 128) (hm:m=cm a b i) (hi:i≤128) (hi1:i<128) (hb0:¬ a.testBit i=false) (ihk:0≤128)  {c0:Prop} {ch0:List (Option Value)}:Runs Try.prog (cAt [1,1,0,1,0,0,1,0,0,1,1] (bdy Try.f28)) ⟨dTmF_s a b i m 0 j,dTmF_m a b i m 0,c0,ch0⟩ (fun e s=>e= .normal∧∃(k:Nat) (j:Nat→Value) (c:Prop) (ch:List (Option Value)),s=⟨dTmG_s a b i m k j,dTmG_m a b i m k,c,ch⟩) 0:=by
  rw[show(cAt [1,1,0,1,0,0,1,0,0,1,1] (bdy Try.f28))= .block 2 (.loop (cAt [1,1,0,1,0,0,1,0,0,1,1,0,0] (bdy Try.f28))) from by kernel_rfl]
  refine runs_block (dTm9L a b i m j ha hb hm hi hi1 hb0 ihk ) ?_
  rintro e s ⟨rfl,hh⟩
  exact .inl ⟨rfl,rfl,hh⟩
theorem dTm0a (a b:Nat) (i m:Nat) (j:Nat→Value) (ha:a<2 ^ 128) (hb:b<2 ^ 128) (hm:m=cm a b i) (hi:i≤128) (hi1:i<128) (hb0:¬ a.testBit i=false)  {c0:Prop} {ch0:List (Option Value)}:Runs Try.prog (cAt [1,1,0,1,0,0,1,0,0,1] (bdy Try.f28)) ⟨dTmE_s a b i m j,dTmE_m a b i m,c0,ch0⟩ (fun e s=>e= .normal∧∃(k1:Nat) (j:Nat→Value) (c:Prop) (ch:List (Option Value)),s=⟨dTmG_s a b i m k1 j,dTmG_m a b i m k1,c,ch⟩) 0:=by
  rw[show(cAt [1,1,0,1,0,0,1,0,0,1] (bdy Try.f28))=(.seq (cAt [1,1,0,1,0,0,1,0,0,1,0] (bdy Try.f28)) (cAt [1,1,0,1,0,0,1,0,0,1,1] (bdy Try.f28))) from by kernel_rfl]
  refine runs_seq (dTm6 a b i m j ha hb hm hi hi1 hb0 ) (fun s hh=> ?_) (fun e s hne hh=>absurd hh.1 hne)
  obtain⟨_,j,c,ch,f0_6,rfl⟩:=hh
  refine(dTm9 a b i m j ha hb hm hi hi1 hb0 f0_6 ).mono ?_
  rintro e s ⟨rfl,k1,j,c,ch,rfl⟩
  exact⟨rfl,k1,j,c,ch,rfl⟩
theorem dTm0b (a b:Nat) (i m:Nat) (j:Nat→Value) (ha:a<2 ^ 128) (hb:b<2 ^ 128) (hm:m=cm a b i) (hi:i≤128) (hi1:i<128) (hb0:¬ a.testBit i=false)  {c0:Prop} {ch0:List (Option Value)}:Runs Try.prog (cAt [1,1,0,1,0,0,1,0,0] (bdy Try.f28)) ⟨dTmE_s a b i m j,dTmE_m a b i m,c0,ch0⟩ (fun e s=>e= .normal∧∃(k11:Nat) (j:Nat→Value) (c:Prop) (ch:List (Option Value)),s=⟨dTmG_s a b i m k11 j,dTmG_m a b i m k11,c,ch⟩) 0:=by
  rw[show(cAt [1,1,0,1,0,0,1,0,0] (bdy Try.f28))=(.seq (cAt [1,1,0,1,0,0,1,0,0,0] (bdy Try.f28)) (cAt [1,1,0,1,0,0,1,0,0,1] (bdy Try.f28))) from by kernel_rfl]
  refine runs_seq (dTm5 a b i m j ha hb hm hi hi1 hb0 ) (fun s hh=> ?_) (fun e s hne hh=>absurd hh.1 hne)
  obtain⟨_,j,c,ch,rfl⟩:=hh
  refine(dTm0a a b i m j ha hb hm hi hi1 hb0 ).mono ?_
  rintro e s ⟨rfl,k11,j,c,ch,rfl⟩
  exact⟨rfl,k11,j,c,ch,rfl⟩
theorem dTm0c (a b:Nat) (i m:Nat) (j:Nat→Value) (ha:a<2 ^ 128) (hb:b<2 ^ 128) (hm:m=cm a b i) (hi:i≤128) (hi1:i<128) (hb0:¬ a.testBit i=false)  {c0:Prop} {ch0:List (Option Value)}:Runs Try.prog (cAt [1,1,0,1,0,0,1,0] (bdy Try.f28)) ⟨dTmE_s a b i m j,dTmE_m a b i m,c0,ch0⟩ (fun e s=>e= .normal∧∃(k11:Nat) (j:Nat→Value) (c:Prop) (ch:List (Option Value)),s=⟨dTmG_s a b i m k11 j,dTmG_m a b i m k11,c,ch⟩) 0:=by
  rw[show(cAt [1,1,0,1,0,0,1,0] (bdy Try.f28))= .block 1 (cAt [1,1,0,1,0,0,1,0,0] (bdy Try.f28)) from by kernel_rfl]
  refine runs_block (dTm0b a b i m j ha hb hm hi hi1 hb0 ) ?_
  rintro e s ⟨rfl,hh⟩
  exact .inr (.inl ⟨rfl,rfl,hh⟩)
def dTm0dp_h (i:Nat):Hn:=if i=9 then⟨13,[],[],[],[]⟩ else⟨0,[],[],[],[]⟩
def dTm0dp_b (a b:Nat) (i m:Nat) (k:Nat) (j:Nat→Value):List Value:=([j 0,j 1,.pointer (some ⟨0,0,none⟩),.pointer (some ⟨1,0,none⟩),.pointer (some ⟨2,0,none⟩),.pointer (some ⟨3,0,none⟩),.int .i64 ((i+1:Nat):Int)] ++ (J j 7 6 ++ ([.int .i64 ((i:Nat):Int),.int .i64 ((i+1:Nat):Int)] ++ (J j 15 73))))
theorem dTm0dp_0 (a b:Nat) (i m:Nat) (k:Nat) (j:Nat→Value):evC (yty.en tabV0) dTm0dp_h (cAt [1,1,0,1,0,0,1,1] (bdy Try.f28)) ⟨dTmG_s a b i m k j,dTmG_m a b i m k,True,[some (.int .i64 ((i+1:Nat):Int))]⟩=some (.normal,⟨dTm0dp_b a b i m k j,[((wA .i64 128 (pL a)),(47,(0,0))),((wA .i64 128 (pL b)),(47,(0,0))),((wA .i64 128 []),(47,(0,0))),((wA .i64 255 (pW (m ^^^ (b <<< i)))),(63,(0,0)))],(((True∧True)∧(True∧(IntKind.i64.wrap (((i:Nat):Int)+1))=((i+1:Nat):Int)))∧True),[]⟩):=by kernel_rfl
theorem dTm0d (a b:Nat) (i m:Nat) (k:Nat) (j:Nat→Value) (ha:a<2 ^ 128) (hb:b<2 ^ 128) (hm:m=cm a b i) (hi:i≤128) (hi1:i<128) (hb0:¬ a.testBit i=false)  {c0:Prop} {ch0:List (Option Value)}:Runs Try.prog (cAt [1,1,0,1,0,0,1,1] (bdy Try.f28)) ⟨dTmG_s a b i m k j,dTmG_m a b i m k,c0,ch0⟩ (fun e s=>e= .normal∧∃(j:Nat→Value) (c:Prop) (ch:List (Option Value)),((m ^^^ (b <<< i))=cm a b (i+1))∧((i+1)≤128)∧s=⟨dTmD_s a b (i+1) (m ^^^ (b <<< i)) j,dTmD_m a b (i+1) (m ^^^ (b <<< i)),c,ch⟩) 0:=by
  refine(runs_ev mixed _ (dTm0dp_0 a b i m k j) ⟨⟨⟨trivial,trivial⟩,⟨trivial,(by rw[IntKind.wrap_i64];omega)⟩⟩,trivial⟩).mono ?_
  rintro e s ⟨rfl,hs⟩
  refine⟨rfl,fun q=>s.tm.getD q undef,s.c,s.ch,by rw[hm,cm,tb_of hb0];rfl,by omega,?_⟩
  subst hs
  kernel_rfl
theorem dTm0e (a b:Nat) (i m:Nat) (j:Nat→Value) (ha:a<2 ^ 128) (hb:b<2 ^ 128) (hm:m=cm a b i) (hi:i≤128) (hi1:i<128) (hb0:¬ a.testBit i=false)  {c0:Prop} {ch0:List (Option Value)}:Runs Try.prog (cAt [1,1,0,1,0,0,1] (bdy Try.f28)) ⟨dTmE_s a b i m j,dTmE_m a b i m,c0,ch0⟩ (fun e s=>e= .normal∧∃(k110:Nat) (j:Nat→Value) (c:Prop) (ch:List (Option Value)),((m ^^^ (b <<< i))=cm a b (i+1))∧((i+1)≤128)∧s=⟨dTmD_s a b (i+1) (m ^^^ (b <<< i)) j,dTmD_m a b (i+1) (m ^^^ (b <<< i)),c,ch⟩) 0:=by
  rw[show(cAt [1,1,0,1,0,0,1] (bdy Try.f28))=(.seq (cAt [1,1,0,1,0,0,1,0] (bdy Try.f28)) (cAt [1,1,0,1,0,0,1,1] (bdy Try.f28))) from by kernel_rfl]
  refine runs_seq (dTm0c a b i m j ha hb hm hi hi1 hb0 ) (fun s hh=> ?_) (fun e s hne hh=>absurd hh.1 hne)
  obtain⟨_,k110,j,c,ch,rfl⟩:=hh
  refine(dTm0d a b i m k110 j ha hb hm hi hi1 hb0 ).mono ?_
  rintro e s ⟨rfl,j,c,ch,f1_2,f1_3,rfl⟩
  exact⟨rfl,k110,j,c,ch,f1_2,f1_3,rfl⟩
theorem dTm0f (a b:Nat) (i m:Nat) (j:Nat→Value) (ha:a<2 ^ 128) (hb:b<2 ^ 128) (hm:m=cm a b i) (hi:i≤128) (hlt:i<128) (hb0:¬ a.testBit i=false) {c0:Prop} {ch0:List (Option Value)}:Runs Try.prog (cAt [1,1,0,1,0,0] (bdy Try.f28)) ⟨dTmD_s a b i m j,dTmD_m a b i m,c0,ch0⟩ (fun e s=>e= .normal∧∃(k1101:Nat) (j:Nat→Value) (c:Prop) (ch:List (Option Value)),((m ^^^ (b <<< i))=cm a b (i+1))∧((i+1)≤128)∧s=⟨dTmD_s a b (i+1) (m ^^^ (b <<< i)) j,dTmD_m a b (i+1) (m ^^^ (b <<< i)),c,ch⟩) 0:=by
  rw[show(cAt [1,1,0,1,0,0] (bdy Try.f28))=(.seq (cAt [1,1,0,1,0,0,0] (bdy Try.f28)) (cAt [1,1,0,1,0,0,1] (bdy Try.f28))) from by kernel_rfl]
  refine runs_seq (dTm4 a b i m j ha hb hm hi hlt hb0) (fun s hh=> ?_) (fun e s hne hh=>absurd hh.1 hne)
  obtain⟨_,j,c,ch,f0_4,f0_5,rfl⟩:=hh
  refine(dTm0e a b i m j ha hb hm hi f0_4 f0_5 ).mono ?_
  rintro e s ⟨rfl,k1101,j,c,ch,f1_2,f1_3,rfl⟩
  exact⟨rfl,k1101,j,c,ch,f1_2,f1_3,rfl⟩
theorem dTm0g (a b:Nat) (i m:Nat) (j:Nat→Value) (ha:a<2 ^ 128) (hb:b<2 ^ 128) (hm:m=cm a b i) (hi:i≤128) (hlt:i<128) {c0:Prop} {ch0:List (Option Value)}:Runs Try.prog (cAt [1,1,0,1,0,0] (bdy Try.f28)) ⟨dTmD_s a b i m j,dTmD_m a b i m,c0,ch0⟩ (fun e s=>e= .normal∧∃(m2:Nat) (j:Nat→Value) (c:Prop) (ch:List (Option Value)),(m2=cm a b (i+1))∧((i+1)≤128)∧s=⟨dTmD_s a b (i+1) m2 j,dTmD_m a b (i+1) m2,c,ch⟩) 0:=by
  by_cases hb0:a.testBit i=false
  · refine (dTm3 a b i m j ha hb hm hi hlt hb0).mono ?_
    rintro e s ⟨rfl,j,c,ch,f2,f3,rfl⟩
    exact⟨rfl,m,j,c,ch,f2,f3,rfl⟩
  · refine (dTm0f a b i m j ha hb hm hi hlt hb0).mono ?_
    rintro e s ⟨rfl,k1101,j,c,ch,f2,f3,rfl⟩
    exact⟨rfl,(m ^^^ (b <<< i)),j,c,ch,f2,f3,rfl⟩
abbrev dTmH_s (a b:Nat) (i m:Nat) (j:Nat→Value):List Value:=([j 0,j 1,.pointer (some ⟨0,0,none⟩),.pointer (some ⟨1,0,none⟩),.pointer (some ⟨2,0,none⟩),.pointer (some ⟨3,0,none⟩)] ++ (J j 6 82))
abbrev dTmH_m (a b:Nat) (i m:Nat):List Mb:= [((wA .i64 128 (pL a)),(47,(0,0))),((wA .i64 128 (pL b)),(47,(0,0))),((wA .i64 128 []),(47,(0,0))),((wA .i64 255 (pW m)),(63,(0,0)))]
def dTm0hp_h (i:Nat):Hn:=if i=9 then⟨13,[],[],[],[]⟩ else⟨0,[],[],[],[]⟩
def dTm0hp_b (a b:Nat) (i m:Nat) (j:Nat→Value):List Value:=([j 0,j 1,.pointer (some ⟨0,0,none⟩),.pointer (some ⟨1,0,none⟩),.pointer (some ⟨2,0,none⟩),.pointer (some ⟨3,0,none⟩),.int .i64 ((i:Nat):Int)] ++ (J j 7 4 ++ ([.int .i64 ((i:Nat):Int),.bool false] ++ (J j 13 75))))
theorem dTm0hp_0 (a b:Nat) (i m:Nat) (j:Nat→Value):evC (yty.en tabV0) dTm0hp_h (cAt [1,1,0,1,0,0] (bdy Try.f28)) ⟨dTmD_s a b i m j,dTmD_m a b i m,True,[some (.bool false)]⟩=some ((.exit 0),⟨dTm0hp_b a b i m j,[((wA .i64 128 (pL a)),(47,(0,0))),((wA .i64 128 (pL b)),(47,(0,0))),((wA .i64 128 []),(47,(0,0))),((wA .i64 255 (pW m)),(63,(0,0)))],((True∧True)∧(True∧(decide (((i:Nat):Int)<128))=false)),[]⟩):=by kernel_rfl
theorem dTm0h (a b:Nat) (i m:Nat) (j:Nat→Value) (ha:a<2 ^ 128) (hb:b<2 ^ 128) (hm:m=cm a b i) (hi:i≤128) (hge:¬ i<128) {c0:Prop} {ch0:List (Option Value)}:Runs Try.prog (cAt [1,1,0,1,0,0] (bdy Try.f28)) ⟨dTmD_s a b i m j,dTmD_m a b i m,c0,ch0⟩ (fun e s=>e=(.exit 0)∧∃(j:Nat→Value) (c:Prop) (ch:List (Option Value)),(m=cm a b 128)∧s=⟨dTmH_s a b i m j,dTmH_m a b i m,c,ch⟩) 0:=by
  have h0:(decide (((i:Nat):Int)<128))=false:=(decide_eq_false (by omega))
  refine(runs_ev mixed _ (dTm0hp_0 a b i m j) ⟨⟨trivial,trivial⟩,⟨trivial,h0⟩⟩).mono ?_
  rintro e s ⟨rfl,hs⟩
  refine⟨rfl,fun q=>s.tm.getD q undef,s.c,s.ch,by rw[hm,show i=128 by omega],?_⟩
  subst hs
  kernel_rfl
theorem dTm0iL (a:Nat) (b:Nat) (j:Nat→Value) (ha:a<2 ^ 128) (hb:b<2 ^ 128) (ihm:0=cm a b 0) (ihi:0≤128)  {c0:Prop} {ch0:List (Option Value)}:Runs Try.prog (.loop (cAt [1,1,0,1,0,0] (bdy Try.f28))) ⟨dTmD_s a b 0 0 j,dTmD_m a b 0 0,c0,ch0⟩ (fun e s=>e= .exit 0∧∃(i:Nat) (m:Nat) (j:Nat→Value) (c:Prop) (ch:List (Option Value)),(m=cm a b 128)∧s=⟨dTmH_s a b i m j,dTmH_m a b i m,c,ch⟩) 0:=by
  refine runs_loop (fun M s=>∃(i:Nat) (m:Nat) (j:Nat→Value) (c:Prop) (ch:List (Option Value)),(m=cm a b i)∧(i≤128)∧M=128 - i∧s=⟨dTmD_s a b i m j,dTmD_m a b i m,c,ch⟩) (128 - 0) ⟨0,0,j,c0,ch0,ihm,ihi,rfl,rfl⟩ ?_
  rintro M s ⟨i,m,j,c,ch,hm,hi,rfl,rfl⟩
  by_cases hlt:i<128
  · skip
    refine(dTm0g a b i m j ha hb hm hi hlt).mono ?_
    rintro e s ⟨rfl,m2_,j,c,ch,f2,f3,rfl⟩
    exact .inl ⟨rfl,128 - (i+1),by omega,⟨(i+1),m2_,j,c,ch,f2,f3,rfl,rfl⟩⟩
  · refine (dTm0h a b i m j ha hb hm hi hlt).mono ?_
    intro e s hh
    obtain⟨rfl,j,c,ch,f2,rfl⟩:=hh
    exact .inr ⟨by simp,rfl,i,m,j,c,ch,f2,rfl⟩
theorem dTm0i (a:Nat) (b:Nat) (j:Nat→Value) (ha:a<2 ^ 128) (hb:b<2 ^ 128) (ihm:0=cm a b 0) (ihi:0≤128)  {c0:Prop} {ch0:List (Option Value)}:Runs Try.prog (cAt [1,1,0,1] (bdy Try.f28)) ⟨dTmD_s a b 0 0 j,dTmD_m a b 0 0,c0,ch0⟩ (fun e s=>e= .normal∧∃(i:Nat) (m:Nat) (j:Nat→Value) (c:Prop) (ch:List (Option Value)),(m=cm a b 128)∧s=⟨dTmH_s a b i m j,dTmH_m a b i m,c,ch⟩) 0:=by
  rw[show(cAt [1,1,0,1] (bdy Try.f28))= .block 0 (.loop (cAt [1,1,0,1,0,0] (bdy Try.f28))) from by kernel_rfl]
  refine runs_block (dTm0iL a b j ha hb ihm ihi ) ?_
  rintro e s ⟨rfl,hh⟩
  exact .inl ⟨rfl,rfl,hh⟩
theorem dTm0j (a b:Nat) (j:Nat→Value) (ha:a<2 ^ 128) (hb:b<2 ^ 128)  {c0:Prop} {ch0:List (Option Value)}:Runs Try.prog (cAt [1,1,0] (bdy Try.f28)) ⟨dTmC_s a b j,dTmC_m a b,c0,ch0⟩ (fun e s=>e= .normal∧∃(i1:Nat) (m1:Nat) (j:Nat→Value) (c:Prop) (ch:List (Option Value)),(m1=cm a b 128)∧s=⟨dTmH_s a b i1 m1 j,dTmH_m a b i1 m1,c,ch⟩) 0:=by
  rw[show(cAt [1,1,0] (bdy Try.f28))=(.seq (cAt [1,1,0,0] (bdy Try.f28)) (cAt [1,1,0,1] (bdy Try.f28))) from by kernel_rfl]
  refine runs_seq (dTm2 a b j ha hb ) (fun s hh=> ?_) (fun e s hne hh=>absurd hh.1 hne)
  obtain⟨_,j,c,ch,f0_2,f0_3,rfl⟩:=hh
  refine(dTm0i a b j ha hb f0_2 f0_3 ).mono ?_
  rintro e s ⟨rfl,i1,m1,j,c,ch,f1_2,rfl⟩
  exact⟨rfl,i1,m1,j,c,ch,f1_2,rfl⟩
abbrev dTmI_s (a b:Nat) (d m:Nat) (j:Nat→Value):List Value:=([j 0,j 1,.pointer (some ⟨0,0,none⟩),.pointer (some ⟨1,0,none⟩),.pointer (some ⟨2,0,none⟩),.pointer (some ⟨3,0,none⟩),j 6,j 7,.int .i64 ((254 - d:Nat):Int)] ++ (J j 9 79))
abbrev dTmI_m (a b:Nat) (d m:Nat):List Mb:= [((wA .i64 128 (pL a)),(47,(0,0))),((wA .i64 128 (pL b)),(47,(0,0))),((wA .i64 128 []),(47,(0,0))),((wA .i64 255 (pW m)),(63,(0,0)))]
def dTm0kp_h (i:Nat):Hn:=if i=9 then⟨13,[],[],[],[]⟩ else⟨0,[],[],[],[]⟩
def dTm0kp_b (a b:Nat) (i m:Nat) (j:Nat→Value):List Value:=([j 0,j 1,.pointer (some ⟨0,0,none⟩),.pointer (some ⟨1,0,none⟩),.pointer (some ⟨2,0,none⟩),.pointer (some ⟨3,0,none⟩),j 6,j 7,.int .i64 254] ++ (J j 9 79))
theorem dTm0kp_0 (a b:Nat) (i m:Nat) (j:Nat→Value):evC (yty.en tabV0) dTm0kp_h (cAt [1,1,1,0,0] (bdy Try.f28)) ⟨dTmH_s a b i m j,dTmH_m a b i m,True,[]⟩=some (.normal,⟨dTm0kp_b a b i m j,[((wA .i64 128 (pL a)),(47,(0,0))),((wA .i64 128 (pL b)),(47,(0,0))),((wA .i64 128 []),(47,(0,0))),((wA .i64 255 (pW m)),(63,(0,0)))],(True∧True),[]⟩):=by kernel_rfl
theorem dTm0k (a b:Nat) (i m:Nat) (j:Nat→Value) (ha:a<2 ^ 128) (hb:b<2 ^ 128) (hm:m=cm a b 128)  {c0:Prop} {ch0:List (Option Value)}:Runs Try.prog (cAt [1,1,1,0,0] (bdy Try.f28)) ⟨dTmH_s a b i m j,dTmH_m a b i m,c0,ch0⟩ (fun e s=>e= .normal∧∃(j:Nat→Value) (c:Prop) (ch:List (Option Value)),(m=rd (cm a b 128) 0)∧(0≤127)∧s=⟨dTmI_s a b 0 m j,dTmI_m a b 0 m,c,ch⟩) 0:=by
  refine(runs_ev mixed _ (dTm0kp_0 a b i m j) ⟨trivial,trivial⟩).mono ?_
  rintro e s ⟨rfl,hs⟩
  refine⟨rfl,fun q=>s.tm.getD q undef,s.c,s.ch,hm,by omega,?_⟩
  subst hs
  kernel_rfl
def dTm0lp_h (i:Nat):Hn:=if i=9 then⟨13,[],[],[],[]⟩ else⟨0,[],[],[],[]⟩
def dTm0lp_b (a b:Nat) (d m:Nat) (j:Nat→Value):List Value:=([j 0,j 1,.pointer (some ⟨0,0,none⟩),.pointer (some ⟨1,0,none⟩),.pointer (some ⟨2,0,none⟩),.pointer (some ⟨3,0,none⟩),j 6,j 7,.int .i64 ((254 - d - 1:Nat):Int)] ++ (J j 9 27 ++ ([.int .i64 ((254 - d:Nat):Int),.bool true,.int .i64 ((254 - d:Nat):Int),.int .i64 ((254 - d - 1:Nat):Int),.int .i64 ((254 - d:Nat):Int),.pointer (some ⟨3,0+Int.toNat ((254 - d:Nat):Int)*1,none⟩),.int .i64 ((pW m).getD (254 - d) 0),.bool false] ++ (J j 44 44))))
theorem dTm0lp_0 (a b:Nat) (d m:Nat) (j:Nat→Value):evC (yty.en tabV0) dTm0lp_h (cAt [1,1,1,0,1,0,0] (bdy Try.f28)) ⟨dTmI_s a b d m j,dTmI_m a b d m,True,[some (.bool true),some (.int .i64 ((pW m).getD (254 - d) 0)),some (.bool false),some (.int .i64 ((254 - d - 1:Nat):Int))]⟩=some (.normal,⟨dTm0lp_b a b d m j,[((wA .i64 128 (pL a)),(47,(0,0))),((wA .i64 128 (pL b)),(47,(0,0))),((wA .i64 128 []),(47,(0,0))),((wA .i64 255 (pW m)),(63,(0,0)))],(((((((((True∧True)∧(True∧(decide (128≤((254 - d:Nat):Int)))=true))∧True)∧(0≤((254 - d:Nat):Int)∧((254 - d:Nat):Int)<((255:Nat):Int)))∧(((wA .i64 255 (pW m))[(0+Int.toNat ((254 - d:Nat):Int)*1)]? =some (.int .i64 ((pW m).getD (254 - d) 0)))∧((pW m).getD (254 - d) 0)=((pW m).getD (254 - d) 0)))∧(True∧(decide (((pW m).getD (254 - d) 0)=1))=false))∧True)∧(True∧(IntKind.i64.wrap (((254 - d:Nat):Int) - 1))=((254 - d - 1:Nat):Int)))∧True),[]⟩):=by kernel_rfl
theorem dTm0l (a b:Nat) (d m:Nat) (j:Nat→Value) (ha:a<2 ^ 128) (hb:b<2 ^ 128) (hm:m=rd (cm a b 128) d) (hd:d≤127) (hlt:d<127) (hb0:m.testBit (254 - d)=false) {c0:Prop} {ch0:List (Option Value)}:Runs Try.prog (cAt [1,1,1,0,1,0,0] (bdy Try.f28)) ⟨dTmI_s a b d m j,dTmI_m a b d m,c0,ch0⟩ (fun e s=>e= .normal∧∃(j:Nat→Value) (c:Prop) (ch:List (Option Value)),(m=rd (cm a b 128) (d+1))∧((d+1)≤127)∧s=⟨dTmI_s a b (d+1) m j,dTmI_m a b (d+1) m,c,ch⟩) 0:=by
  have h0:(decide (128≤((254 - d:Nat):Int)))=true:=(decide_eq_true (by omega))
  have h1:(decide (((pW m).getD (254 - d) 0)=1))=false:=(decide_eq_false (by rw[pW_at (by omega)];unfold bt;rw[hb0];decide))
  refine(runs_ev mixed _ (dTm0lp_0 a b d m j) ⟨⟨⟨⟨⟨⟨⟨⟨⟨trivial,trivial⟩,⟨trivial,h0⟩⟩,trivial⟩,(by(try simp only[Int.toNat_natCast,wA_size]);omega)⟩,⟨(wA_get (by omega) (by omega)),rfl⟩⟩,⟨trivial,h1⟩⟩,trivial⟩,⟨trivial,(by rw[IntKind.wrap_i64];omega)⟩⟩,trivial⟩).mono ?_
  rintro e s ⟨rfl,hs⟩
  refine⟨rfl,fun q=>s.tm.getD q undef,s.c,s.ch,by rw[rd,← hm,hb0];exact(Nat.xor_zero _).symm,by omega,?_⟩
  subst hs
  kernel_rfl
def dTm0mp_h (i:Nat):Hn:=if i=9 then⟨13,[],[],[],[]⟩ else⟨0,[],[],[],[]⟩
def dTm0mp_b (a b:Nat) (d m:Nat) (j:Nat→Value):List Value:=([j 0,j 1,.pointer (some ⟨0,0,none⟩),.pointer (some ⟨1,0,none⟩),.pointer (some ⟨2,0,none⟩),.pointer (some ⟨3,0,none⟩),j 6,j 7,.int .i64 ((254 - d - 1:Nat):Int)] ++ (J j 9 27 ++ ([.int .i64 ((254 - d:Nat):Int),.bool true,.int .i64 ((254 - d:Nat):Int),.int .i64 ((254 - d - 1:Nat):Int),.int .i64 ((254 - d:Nat):Int),.pointer (some ⟨3,0+Int.toNat ((254 - d:Nat):Int)*1,none⟩),.int .i64 ((pW m).getD (254 - d) 0),.bool true,.int .i64 ((254 - d:Nat):Int),.pointer (some ⟨3,0+Int.toNat ((254 - d:Nat):Int)*1,none⟩),.int .i64 ((254 - d:Nat):Int),.int .i64 ((254 - d - 1:Nat):Int),.int .i64 ((254 - d:Nat):Int),.int .i64 ((254 - d - 1:Nat):Int),.pointer (some ⟨3,0+Int.toNat ((254 - d - 1:Nat):Int)*1,none⟩),.int .i64 ((pW (m ^^^ 2 ^ (254 - d))).getD (254 - d - 1) 0),.int .i64 (bits .xor .i64 ((pW (m ^^^ 2 ^ (254 - d))).getD (254 - d - 1) 0) 1),.pointer (some ⟨3,0+Int.toNat ((254 - d - 1:Nat):Int)*1,none⟩),.int .i64 ((254 - d:Nat):Int),.int .i64 ((254 - d - 2:Nat):Int),.int .i64 ((254 - d:Nat):Int),.int .i64 ((254 - d - 2:Nat):Int),.pointer (some ⟨3,0+Int.toNat ((254 - d - 2:Nat):Int)*1,none⟩),.int .i64 ((pW ((m ^^^ 2 ^ (254 - d)) ^^^ 2 ^ (254 - d - 1))).getD (254 - d - 2) 0),.int .i64 (bits .xor .i64 ((pW ((m ^^^ 2 ^ (254 - d)) ^^^ 2 ^ (254 - d - 1))).getD (254 - d - 2) 0) 1),.pointer (some ⟨3,0+Int.toNat ((254 - d - 2:Nat):Int)*1,none⟩),.int .i64 ((254 - d:Nat):Int),.int .i64 ((254 - d - 7:Nat):Int),.int .i64 ((254 - d:Nat):Int),.int .i64 ((254 - d - 7:Nat):Int),.pointer (some ⟨3,0+Int.toNat ((254 - d - 7:Nat):Int)*1,none⟩),.int .i64 ((pW (((m ^^^ 2 ^ (254 - d)) ^^^ 2 ^ (254 - d - 1)) ^^^ 2 ^ (254 - d - 2))).getD (254 - d - 7) 0),.int .i64 (bits .xor .i64 ((pW (((m ^^^ 2 ^ (254 - d)) ^^^ 2 ^ (254 - d - 1)) ^^^ 2 ^ (254 - d - 2))).getD (254 - d - 7) 0) 1),.pointer (some ⟨3,0+Int.toNat ((254 - d - 7:Nat):Int)*1,none⟩),.int .i64 ((254 - d:Nat):Int),.int .i64 ((254 - d - 128:Nat):Int),.int .i64 ((254 - d:Nat):Int),.int .i64 ((254 - d - 128:Nat):Int),.pointer (some ⟨3,0+Int.toNat ((254 - d - 128:Nat):Int)*1,none⟩),.int .i64 ((pW ((((m ^^^ 2 ^ (254 - d)) ^^^ 2 ^ (254 - d - 1)) ^^^ 2 ^ (254 - d - 2)) ^^^ 2 ^ (254 - d - 7))).getD (254 - d - 128) 0),.int .i64 (bits .xor .i64 ((pW ((((m ^^^ 2 ^ (254 - d)) ^^^ 2 ^ (254 - d - 1)) ^^^ 2 ^ (254 - d - 2)) ^^^ 2 ^ (254 - d - 7))).getD (254 - d - 128) 0) 1),.pointer (some ⟨3,0+Int.toNat ((254 - d - 128:Nat):Int)*1,none⟩)] ++ (J j 78 10))))
theorem dTm0mp_0 (a b:Nat) (d m:Nat) (j:Nat→Value):evC (yty.en tabV0) dTm0mp_h (cAt [1,1,1,0,1,0,0] (bdy Try.f28)) ⟨dTmI_s a b d m j,dTmI_m a b d m,True,[some (.bool true),some (.int .i64 ((pW m).getD (254 - d) 0)),some (.bool true),some (.agg (wA .i64 255 (pW (m ^^^ 2 ^ (254 - d))))),some (.int .i64 ((254 - d - 1:Nat):Int)),some (.int .i64 ((254 - d - 1:Nat):Int)),some (.int .i64 ((pW (m ^^^ 2 ^ (254 - d))).getD (254 - d - 1) 0)),none,some (.agg (wA .i64 255 (pW ((m ^^^ 2 ^ (254 - d)) ^^^ 2 ^ (254 - d - 1))))),some (.int .i64 ((254 - d - 2:Nat):Int)),some (.int .i64 ((254 - d - 2:Nat):Int)),some (.int .i64 ((pW ((m ^^^ 2 ^ (254 - d)) ^^^ 2 ^ (254 - d - 1))).getD (254 - d - 2) 0)),none,some (.agg (wA .i64 255 (pW (((m ^^^ 2 ^ (254 - d)) ^^^ 2 ^ (254 - d - 1)) ^^^ 2 ^ (254 - d - 2))))),some (.int .i64 ((254 - d - 7:Nat):Int)),some (.int .i64 ((254 - d - 7:Nat):Int)),some (.int .i64 ((pW (((m ^^^ 2 ^ (254 - d)) ^^^ 2 ^ (254 - d - 1)) ^^^ 2 ^ (254 - d - 2))).getD (254 - d - 7) 0)),none,some (.agg (wA .i64 255 (pW ((((m ^^^ 2 ^ (254 - d)) ^^^ 2 ^ (254 - d - 1)) ^^^ 2 ^ (254 - d - 2)) ^^^ 2 ^ (254 - d - 7))))),some (.int .i64 ((254 - d - 128:Nat):Int)),some (.int .i64 ((254 - d - 128:Nat):Int)),some (.int .i64 ((pW ((((m ^^^ 2 ^ (254 - d)) ^^^ 2 ^ (254 - d - 1)) ^^^ 2 ^ (254 - d - 2)) ^^^ 2 ^ (254 - d - 7))).getD (254 - d - 128) 0)),none,some (.agg (wA .i64 255 (pW (((((m ^^^ 2 ^ (254 - d)) ^^^ 2 ^ (254 - d - 1)) ^^^ 2 ^ (254 - d - 2)) ^^^ 2 ^ (254 - d - 7)) ^^^ 2 ^ (254 - d - 128))))),some (.int .i64 ((254 - d - 1:Nat):Int))]⟩=some (.normal,⟨dTm0mp_b a b d m j,[((wA .i64 128 (pL a)),(47,(0,0))),((wA .i64 128 (pL b)),(47,(0,0))),((wA .i64 128 []),(47,(0,0))),((wA .i64 255 (pW (((((m ^^^ 2 ^ (254 - d)) ^^^ 2 ^ (254 - d - 1)) ^^^ 2 ^ (254 - d - 2)) ^^^ 2 ^ (254 - d - 7)) ^^^ 2 ^ (254 - d - 128)))),(63,(0,0)))],((((((((((((((((((((((((((((((((((((((((((((((((True∧True)∧(True∧(decide (128≤((254 - d:Nat):Int)))=true))∧True)∧(0≤((254 - d:Nat):Int)∧((254 - d:Nat):Int)<((255:Nat):Int)))∧(((wA .i64 255 (pW m))[(0+Int.toNat ((254 - d:Nat):Int)*1)]? =some (.int .i64 ((pW m).getD (254 - d) 0)))∧((pW m).getD (254 - d) 0)=((pW m).getD (254 - d) 0)))∧(True∧(decide (((pW m).getD (254 - d) 0)=1))=true))∧True)∧(0≤((254 - d:Nat):Int)∧((254 - d:Nat):Int)<((255:Nat):Int)))∧((0+Int.toNat ((254 - d:Nat):Int)*1)<(wA .i64 255 (pW m)).size∧(wA .i64 255 (pW m)).setIfInBounds (0+Int.toNat ((254 - d:Nat):Int)*1) (.int .i64 0)=(wA .i64 255 (pW (m ^^^ 2 ^ (254 - d))))))∧True)∧(True∧(IntKind.i64.wrap (((254 - d:Nat):Int) - 1))=((254 - d - 1:Nat):Int)))∧True)∧(True∧(IntKind.i64.wrap (((254 - d:Nat):Int) - 1))=((254 - d - 1:Nat):Int)))∧(0≤((254 - d - 1:Nat):Int)∧((254 - d - 1:Nat):Int)<((255:Nat):Int)))∧(((wA .i64 255 (pW (m ^^^ 2 ^ (254 - d))))[(0+Int.toNat ((254 - d - 1:Nat):Int)*1)]? =some (.int .i64 ((pW (m ^^^ 2 ^ (254 - d))).getD (254 - d - 1) 0)))∧((pW (m ^^^ 2 ^ (254 - d))).getD (254 - d - 1) 0)=((pW (m ^^^ 2 ^ (254 - d))).getD (254 - d - 1) 0)))∧True)∧(0≤((254 - d - 1:Nat):Int)∧((254 - d - 1:Nat):Int)<((255:Nat):Int)))∧((0+Int.toNat ((254 - d - 1:Nat):Int)*1)<(wA .i64 255 (pW (m ^^^ 2 ^ (254 - d)))).size∧(wA .i64 255 (pW (m ^^^ 2 ^ (254 - d)))).setIfInBounds (0+Int.toNat ((254 - d - 1:Nat):Int)*1) (.int .i64 (bits .xor .i64 ((pW (m ^^^ 2 ^ (254 - d))).getD (254 - d - 1) 0) 1))=(wA .i64 255 (pW ((m ^^^ 2 ^ (254 - d)) ^^^ 2 ^ (254 - d - 1))))))∧True)∧(True∧(IntKind.i64.wrap (((254 - d:Nat):Int) - 2))=((254 - d - 2:Nat):Int)))∧True)∧(True∧(IntKind.i64.wrap (((254 - d:Nat):Int) - 2))=((254 - d - 2:Nat):Int)))∧(0≤((254 - d - 2:Nat):Int)∧((254 - d - 2:Nat):Int)<((255:Nat):Int)))∧(((wA .i64 255 (pW ((m ^^^ 2 ^ (254 - d)) ^^^ 2 ^ (254 - d - 1))))[(0+Int.toNat ((254 - d - 2:Nat):Int)*1)]? =some (.int .i64 ((pW ((m ^^^ 2 ^ (254 - d)) ^^^ 2 ^ (254 - d - 1))).getD (254 - d - 2) 0)))∧((pW ((m ^^^ 2 ^ (254 - d)) ^^^ 2 ^ (254 - d - 1))).getD (254 - d - 2) 0)=((pW ((m ^^^ 2 ^ (254 - d)) ^^^ 2 ^ (254 - d - 1))).getD (254 - d - 2) 0)))∧True)∧(0≤((254 - d - 2:Nat):Int)∧((254 - d - 2:Nat):Int)<((255:Nat):Int)))∧((0+Int.toNat ((254 - d - 2:Nat):Int)*1)<(wA .i64 255 (pW ((m ^^^ 2 ^ (254 - d)) ^^^ 2 ^ (254 - d - 1)))).size∧(wA .i64 255 (pW ((m ^^^ 2 ^ (254 - d)) ^^^ 2 ^ (254 - d - 1)))).setIfInBounds (0+Int.toNat ((254 - d - 2:Nat):Int)*1) (.int .i64 (bits .xor .i64 ((pW ((m ^^^ 2 ^ (254 - d)) ^^^ 2 ^ (254 - d - 1))).getD (254 - d - 2) 0) 1))=(wA .i64 255 (pW (((m ^^^ 2 ^ (254 - d)) ^^^ 2 ^ (254 - d - 1)) ^^^ 2 ^ (254 - d - 2))))))∧True)∧(True∧(IntKind.i64.wrap (((254 - d:Nat):Int) - 7))=((254 - d - 7:Nat):Int)))∧True)∧(True∧(IntKind.i64.wrap (((254 - d:Nat):Int) - 7))=((254 - d - 7:Nat):Int)))∧(0≤((254 - d - 7:Nat):Int)∧((254 - d - 7:Nat):Int)<((255:Nat):Int)))∧(((wA .i64 255 (pW (((m ^^^ 2 ^ (254 - d)) ^^^ 2 ^ (254 - d - 1)) ^^^ 2 ^ (254 - d - 2))))[(0+Int.toNat ((254 - d - 7:Nat):Int)*1)]? =some (.int .i64 ((pW (((m ^^^ 2 ^ (254 - d)) ^^^ 2 ^ (254 - d - 1)) ^^^ 2 ^ (254 - d - 2))).getD (254 - d - 7) 0)))∧((pW (((m ^^^ 2 ^ (254 - d)) ^^^ 2 ^ (254 - d - 1)) ^^^ 2 ^ (254 - d - 2))).getD (254 - d - 7) 0)=((pW (((m ^^^ 2 ^ (254 - d)) ^^^ 2 ^ (254 - d - 1)) ^^^ 2 ^ (254 - d - 2))).getD (254 - d - 7) 0)))∧True)∧(0≤((254 - d - 7:Nat):Int)∧((254 - d - 7:Nat):Int)<((255:Nat):Int)))∧((0+Int.toNat ((254 - d - 7:Nat):Int)*1)<(wA .i64 255 (pW (((m ^^^ 2 ^ (254 - d)) ^^^ 2 ^ (254 - d - 1)) ^^^ 2 ^ (254 - d - 2)))).size∧(wA .i64 255 (pW (((m ^^^ 2 ^ (254 - d)) ^^^ 2 ^ (254 - d - 1)) ^^^ 2 ^ (254 - d - 2)))).setIfInBounds (0+Int.toNat ((254 - d - 7:Nat):Int)*1) (.int .i64 (bits .xor .i64 ((pW (((m ^^^ 2 ^ (254 - d)) ^^^ 2 ^ (254 - d - 1)) ^^^ 2 ^ (254 - d - 2))).getD (254 - d - 7) 0) 1))=(wA .i64 255 (pW ((((m ^^^ 2 ^ (254 - d)) ^^^ 2 ^ (254 - d - 1)) ^^^ 2 ^ (254 - d - 2)) ^^^ 2 ^ (254 - d - 7))))))∧True)∧(True∧(IntKind.i64.wrap (((254 - d:Nat):Int) - 128))=((254 - d - 128:Nat):Int)))∧True)∧(True∧(IntKind.i64.wrap (((254 - d:Nat):Int) - 128))=((254 - d - 128:Nat):Int)))∧(0≤((254 - d - 128:Nat):Int)∧((254 - d - 128:Nat):Int)<((255:Nat):Int)))∧(((wA .i64 255 (pW ((((m ^^^ 2 ^ (254 - d)) ^^^ 2 ^ (254 - d - 1)) ^^^ 2 ^ (254 - d - 2)) ^^^ 2 ^ (254 - d - 7))))[(0+Int.toNat ((254 - d - 128:Nat):Int)*1)]? =some (.int .i64 ((pW ((((m ^^^ 2 ^ (254 - d)) ^^^ 2 ^ (254 - d - 1)) ^^^ 2 ^ (254 - d - 2)) ^^^ 2 ^ (254 - d - 7))).getD (254 - d - 128) 0)))∧((pW ((((m ^^^ 2 ^ (254 - d)) ^^^ 2 ^ (254 - d - 1)) ^^^ 2 ^ (254 - d - 2)) ^^^ 2 ^ (254 - d - 7))).getD (254 - d - 128) 0)=((pW ((((m ^^^ 2 ^ (254 - d)) ^^^ 2 ^ (254 - d - 1)) ^^^ 2 ^ (254 - d - 2)) ^^^ 2 ^ (254 - d - 7))).getD (254 - d - 128) 0)))∧True)∧(0≤((254 - d - 128:Nat):Int)∧((254 - d - 128:Nat):Int)<((255:Nat):Int)))∧((0+Int.toNat ((254 - d - 128:Nat):Int)*1)<(wA .i64 255 (pW ((((m ^^^ 2 ^ (254 - d)) ^^^ 2 ^ (254 - d - 1)) ^^^ 2 ^ (254 - d - 2)) ^^^ 2 ^ (254 - d - 7)))).size∧(wA .i64 255 (pW ((((m ^^^ 2 ^ (254 - d)) ^^^ 2 ^ (254 - d - 1)) ^^^ 2 ^ (254 - d - 2)) ^^^ 2 ^ (254 - d - 7)))).setIfInBounds (0+Int.toNat ((254 - d - 128:Nat):Int)*1) (.int .i64 (bits .xor .i64 ((pW ((((m ^^^ 2 ^ (254 - d)) ^^^ 2 ^ (254 - d - 1)) ^^^ 2 ^ (254 - d - 2)) ^^^ 2 ^ (254 - d - 7))).getD (254 - d - 128) 0) 1))=(wA .i64 255 (pW (((((m ^^^ 2 ^ (254 - d)) ^^^ 2 ^ (254 - d - 1)) ^^^ 2 ^ (254 - d - 2)) ^^^ 2 ^ (254 - d - 7)) ^^^ 2 ^ (254 - d - 128))))))∧True)∧(True∧(IntKind.i64.wrap (((254 - d:Nat):Int) - 1))=((254 - d - 1:Nat):Int)))∧True),[]⟩):=by kernel_rfl
theorem dTm0m (a b:Nat) (d m:Nat) (j:Nat→Value) (ha:a<2 ^ 128) (hb:b<2 ^ 128) (hm:m=rd (cm a b 128) d) (hd:d≤127) (hlt:d<127) (hb0:¬ m.testBit (254 - d)=false) {c0:Prop} {ch0:List (Option Value)}:Runs Try.prog (cAt [1,1,1,0,1,0,0] (bdy Try.f28)) ⟨dTmI_s a b d m j,dTmI_m a b d m,c0,ch0⟩ (fun e s=>e= .normal∧∃(j:Nat→Value) (c:Prop) (ch:List (Option Value)),((((((m ^^^ 2 ^ (254 - d)) ^^^ 2 ^ (254 - d - 1)) ^^^ 2 ^ (254 - d - 2)) ^^^ 2 ^ (254 - d - 7)) ^^^ 2 ^ (254 - d - 128))=rd (cm a b 128) (d+1))∧((d+1)≤127)∧s=⟨dTmI_s a b (d+1) (((((m ^^^ 2 ^ (254 - d)) ^^^ 2 ^ (254 - d - 1)) ^^^ 2 ^ (254 - d - 2)) ^^^ 2 ^ (254 - d - 7)) ^^^ 2 ^ (254 - d - 128)) j,dTmI_m a b (d+1) (((((m ^^^ 2 ^ (254 - d)) ^^^ 2 ^ (254 - d - 1)) ^^^ 2 ^ (254 - d - 2)) ^^^ 2 ^ (254 - d - 7)) ^^^ 2 ^ (254 - d - 128)),c,ch⟩) 0:=by
  have h0:(decide (128≤((254 - d:Nat):Int)))=true:=(decide_eq_true (by omega))
  have h1:(decide (((pW m).getD (254 - d) 0)=1))=true:=(decide_eq_true (by rw[pW_at (by omega)];unfold bt;rw[tb_of hb0];rfl))
  refine(runs_ev mixed _ (dTm0mp_0 a b d m j) ⟨⟨⟨⟨⟨⟨⟨⟨⟨⟨⟨⟨⟨⟨⟨⟨⟨⟨⟨⟨⟨⟨⟨⟨⟨⟨⟨⟨⟨⟨⟨⟨⟨⟨⟨⟨⟨⟨⟨⟨⟨⟨⟨⟨⟨⟨⟨⟨trivial,trivial⟩,⟨trivial,h0⟩⟩,trivial⟩,(by(try simp only[Int.toNat_natCast,wA_size]);omega)⟩,⟨(wA_get (by omega) (by omega)),rfl⟩⟩,⟨trivial,h1⟩⟩,trivial⟩,(by(try simp only[Int.toNat_natCast,wA_size]);omega)⟩,pW_put (by omega) (by rw[Int.toNat_natCast];omega) (fun k _=>bt_flip m (254 - d) (by rw[tb_of hb0];rfl) k)⟩,trivial⟩,⟨trivial,(by rw[IntKind.wrap_i64];omega)⟩⟩,trivial⟩,⟨trivial,(by rw[IntKind.wrap_i64];omega)⟩⟩,(by(try simp only[Int.toNat_natCast,wA_size]);omega)⟩,⟨(wA_get (by omega) (by omega)),rfl⟩⟩,trivial⟩,(by(try simp only[Int.toNat_natCast,wA_size]);omega)⟩,pW_put (by omega) (by rw[Int.toNat_natCast];omega) (fun k _=>bt_flip (m ^^^ 2 ^ (254 - d)) (254 - d - 1) (by rw[pW_at (by omega),xb1]) k)⟩,trivial⟩,⟨trivial,(by rw[IntKind.wrap_i64];omega)⟩⟩,trivial⟩,⟨trivial,(by rw[IntKind.wrap_i64];omega)⟩⟩,(by(try simp only[Int.toNat_natCast,wA_size]);omega)⟩,⟨(wA_get (by omega) (by omega)),rfl⟩⟩,trivial⟩,(by(try simp only[Int.toNat_natCast,wA_size]);omega)⟩,pW_put (by omega) (by rw[Int.toNat_natCast];omega) (fun k _=>bt_flip ((m ^^^ 2 ^ (254 - d)) ^^^ 2 ^ (254 - d - 1)) (254 - d - 2) (by rw[pW_at (by omega),xb1]) k)⟩,trivial⟩,⟨trivial,(by rw[IntKind.wrap_i64];omega)⟩⟩,trivial⟩,⟨trivial,(by rw[IntKind.wrap_i64];omega)⟩⟩,(by(try simp only[Int.toNat_natCast,wA_size]);omega)⟩,⟨(wA_get (by omega) (by omega)),rfl⟩⟩,trivial⟩,(by(try simp only[Int.toNat_natCast,wA_size]);omega)⟩,pW_put (by omega) (by rw[Int.toNat_natCast];omega) (fun k _=>bt_flip (((m ^^^ 2 ^ (254 - d)) ^^^ 2 ^ (254 - d - 1)) ^^^ 2 ^ (254 - d - 2)) (254 - d - 7) (by rw[pW_at (by omega),xb1]) k)⟩,trivial⟩,⟨trivial,(by rw[IntKind.wrap_i64];omega)⟩⟩,trivial⟩,⟨trivial,(by rw[IntKind.wrap_i64];omega)⟩⟩,(by(try simp only[Int.toNat_natCast,wA_size]);omega)⟩,⟨(wA_get (by omega) (by omega)),rfl⟩⟩,trivial⟩,(by(try simp only[Int.toNat_natCast,wA_size]);omega)⟩,pW_put (by omega) (by rw[Int.toNat_natCast];omega) (fun k _=>bt_flip ((((m ^^^ 2 ^ (254 - d)) ^^^ 2 ^ (254 - d - 1)) ^^^ 2 ^ (254 - d - 2)) ^^^ 2 ^ (254 - d - 7)) (254 - d - 128) (by rw[pW_at (by omega),xb1]) k)⟩,trivial⟩,⟨trivial,(by rw[IntKind.wrap_i64];omega)⟩⟩,trivial⟩).mono ?_
  rintro e s ⟨rfl,hs⟩
  refine⟨rfl,fun q=>s.tm.getD q undef,s.c,s.ch,by rw[rd,← hm,tb_of hb0,cond_true];exact rc_chain m d,by omega,?_⟩
  subst hs
  kernel_rfl
theorem dTm0n (a b:Nat) (d m:Nat) (j:Nat→Value) (ha:a<2 ^ 128) (hb:b<2 ^ 128) (hm:m=rd (cm a b 128) d) (hd:d≤127) (hlt:d<127) {c0:Prop} {ch0:List (Option Value)}:Runs Try.prog (cAt [1,1,1,0,1,0,0] (bdy Try.f28)) ⟨dTmI_s a b d m j,dTmI_m a b d m,c0,ch0⟩ (fun e s=>e= .normal∧∃(m2:Nat) (j:Nat→Value) (c:Prop) (ch:List (Option Value)),(m2=rd (cm a b 128) (d+1))∧((d+1)≤127)∧s=⟨dTmI_s a b (d+1) m2 j,dTmI_m a b (d+1) m2,c,ch⟩) 0:=by
  by_cases hb0:m.testBit (254 - d)=false
  · refine (dTm0l a b d m j ha hb hm hd hlt hb0).mono ?_
    rintro e s ⟨rfl,j,c,ch,f2,f3,rfl⟩
    exact⟨rfl,m,j,c,ch,f2,f3,rfl⟩
  · refine (dTm0m a b d m j ha hb hm hd hlt hb0).mono ?_
    rintro e s ⟨rfl,j,c,ch,f2,f3,rfl⟩
    exact⟨rfl,(((((m ^^^ 2 ^ (254 - d)) ^^^ 2 ^ (254 - d - 1)) ^^^ 2 ^ (254 - d - 2)) ^^^ 2 ^ (254 - d - 7)) ^^^ 2 ^ (254 - d - 128)),j,c,ch,f2,f3,rfl⟩
abbrev dTmJ_s (a b:Nat) (d m:Nat) (j:Nat→Value):List Value:=([j 0,j 1,.pointer (some ⟨0,0,none⟩),.pointer (some ⟨1,0,none⟩),.pointer (some ⟨2,0,none⟩),.pointer (some ⟨3,0,none⟩)] ++ (J j 6 82))
abbrev dTmJ_m (a b:Nat) (d m:Nat):List Mb:= [((wA .i64 128 (pL a)),(47,(0,0))),((wA .i64 128 (pL b)),(47,(0,0))),((wA .i64 128 []),(47,(0,0))),((wA .i64 255 (pW m)),(63,(0,0)))]
def dTm0op_h (i:Nat):Hn:=if i=9 then⟨13,[],[],[],[]⟩ else⟨0,[],[],[],[]⟩
def dTm0op_b (a b:Nat) (d m:Nat) (j:Nat→Value):List Value:=([j 0,j 1,.pointer (some ⟨0,0,none⟩),.pointer (some ⟨1,0,none⟩),.pointer (some ⟨2,0,none⟩),.pointer (some ⟨3,0,none⟩),j 6,j 7,.int .i64 ((254 - d:Nat):Int)] ++ (J j 9 27 ++ ([.int .i64 ((254 - d:Nat):Int),.bool false] ++ (J j 38 50))))
theorem dTm0op_0 (a b:Nat) (d m:Nat) (j:Nat→Value):evC (yty.en tabV0) dTm0op_h (cAt [1,1,1,0,1,0,0] (bdy Try.f28)) ⟨dTmI_s a b d m j,dTmI_m a b d m,True,[some (.bool false)]⟩=some ((.exit 4),⟨dTm0op_b a b d m j,[((wA .i64 128 (pL a)),(47,(0,0))),((wA .i64 128 (pL b)),(47,(0,0))),((wA .i64 128 []),(47,(0,0))),((wA .i64 255 (pW m)),(63,(0,0)))],((True∧True)∧(True∧(decide (128≤((254 - d:Nat):Int)))=false)),[]⟩):=by kernel_rfl
theorem dTm0o (a b:Nat) (d m:Nat) (j:Nat→Value) (ha:a<2 ^ 128) (hb:b<2 ^ 128) (hm:m=rd (cm a b 128) d) (hd:d≤127) (hge:¬ d<127) {c0:Prop} {ch0:List (Option Value)}:Runs Try.prog (cAt [1,1,1,0,1,0,0] (bdy Try.f28)) ⟨dTmI_s a b d m j,dTmI_m a b d m,c0,ch0⟩ (fun e s=>e=(.exit 4)∧∃(j:Nat→Value) (c:Prop) (ch:List (Option Value)),(m=rd (cm a b 128) 127)∧s=⟨dTmJ_s a b d m j,dTmJ_m a b d m,c,ch⟩) 0:=by
  have h0:(decide (128≤((254 - d:Nat):Int)))=false:=(decide_eq_false (by omega))
  refine(runs_ev mixed _ (dTm0op_0 a b d m j) ⟨⟨trivial,trivial⟩,⟨trivial,h0⟩⟩).mono ?_
  rintro e s ⟨rfl,hs⟩
  refine⟨rfl,fun q=>s.tm.getD q undef,s.c,s.ch,by rw[hm,show d=127 by omega],?_⟩
  subst hs
  kernel_rfl
theorem dTm0pL (a:Nat) (b:Nat) (m:Nat) (j:Nat→Value) (ha:a<2 ^ 128) (hb:b<2 ^ 128) (ihm:m=rd (cm a b 128) 0) (ihd:0≤127)  {c0:Prop} {ch0:List (Option Value)}:Runs Try.prog (.loop (cAt [1,1,1,0,1,0,0] (bdy Try.f28))) ⟨dTmI_s a b 0 m j,dTmI_m a b 0 m,c0,ch0⟩ (fun e s=>e= .exit 4∧∃(d:Nat) (m:Nat) (j:Nat→Value) (c:Prop) (ch:List (Option Value)),(m=rd (cm a b 128) 127)∧s=⟨dTmJ_s a b d m j,dTmJ_m a b d m,c,ch⟩) 0:=by
  refine runs_loop (fun M s=>∃(d:Nat) (m:Nat) (j:Nat→Value) (c:Prop) (ch:List (Option Value)),(m=rd (cm a b 128) d)∧(d≤127)∧M=127 - d∧s=⟨dTmI_s a b d m j,dTmI_m a b d m,c,ch⟩) (127 - 0) ⟨0,m,j,c0,ch0,ihm,ihd,rfl,rfl⟩ ?_
  rintro M s ⟨d,m,j,c,ch,hm,hd,rfl,rfl⟩
  by_cases hlt:d<127
  · skip
    refine(dTm0n a b d m j ha hb hm hd hlt).mono ?_
    rintro e s ⟨rfl,m2_,j,c,ch,f2,f3,rfl⟩
    exact .inl ⟨rfl,127 - (d+1),by omega,⟨(d+1),m2_,j,c,ch,f2,f3,rfl,rfl⟩⟩
  · refine (dTm0o a b d m j ha hb hm hd hlt).mono ?_
    intro e s hh
    obtain⟨rfl,j,c,ch,f0,rfl⟩:=hh
    exact .inr ⟨by simp,rfl,d,m,j,c,ch,f0,rfl⟩
theorem dTm0p (a:Nat) (b:Nat) (m:Nat) (j:Nat→Value) (ha:a<2 ^ 128) (hb:b<2 ^ 128) (ihm:m=rd (cm a b 128) 0) (ihd:0≤127)  {c0:Prop} {ch0:List (Option Value)}:Runs Try.prog (cAt [1,1,1,0,1] (bdy Try.f28)) ⟨dTmI_s a b 0 m j,dTmI_m a b 0 m,c0,ch0⟩ (fun e s=>e= .normal∧∃(d:Nat) (m:Nat) (j:Nat→Value) (c:Prop) (ch:List (Option Value)),(m=rd (cm a b 128) 127)∧s=⟨dTmJ_s a b d m j,dTmJ_m a b d m,c,ch⟩) 0:=by
  rw[show(cAt [1,1,1,0,1] (bdy Try.f28))= .block 4 (.loop (cAt [1,1,1,0,1,0,0] (bdy Try.f28))) from by kernel_rfl]
  refine runs_block (dTm0pL a b m j ha hb ihm ihd ) ?_
  rintro e s ⟨rfl,hh⟩
  exact .inl ⟨rfl,rfl,hh⟩
theorem dTm0q (a b:Nat) (i m:Nat) (j:Nat→Value) (ha:a<2 ^ 128) (hb:b<2 ^ 128) (hm:m=cm a b 128)  {c0:Prop} {ch0:List (Option Value)}:Runs Try.prog (cAt [1,1,1,0] (bdy Try.f28)) ⟨dTmH_s a b i m j,dTmH_m a b i m,c0,ch0⟩ (fun e s=>e= .normal∧∃(d1:Nat) (m1:Nat) (j:Nat→Value) (c:Prop) (ch:List (Option Value)),(m1=rd (cm a b 128) 127)∧s=⟨dTmJ_s a b d1 m1 j,dTmJ_m a b d1 m1,c,ch⟩) 0:=by
  rw[show(cAt [1,1,1,0] (bdy Try.f28))=(.seq (cAt [1,1,1,0,0] (bdy Try.f28)) (cAt [1,1,1,0,1] (bdy Try.f28))) from by kernel_rfl]
  refine runs_seq (dTm0k a b i m j ha hb hm ) (fun s hh=> ?_) (fun e s hne hh=>absurd hh.1 hne)
  obtain⟨_,j,c,ch,f0_2,f0_3,rfl⟩:=hh
  refine(dTm0p a b m j ha hb f0_2 f0_3 ).mono ?_
  rintro e s ⟨rfl,d1,m1,j,c,ch,f1_0,rfl⟩
  exact⟨rfl,d1,m1,j,c,ch,f1_0,rfl⟩
abbrev dTmK_s (a b:Nat) (d m:Nat) (j:Nat→Value):List Value:=(J j 0 4 ++ ([.pointer (some ⟨2,0,none⟩),.pointer (some ⟨3,0,none⟩)] ++ (J j 6 3 ++ ([.pointer (some ⟨4,0,none⟩)] ++ (J j 10 78)))))
abbrev dTmK_m (a b:Nat) (d m:Nat):List Mb:= [((wA .i64 128 (pL a)),(47,(0,0))),((wA .i64 128 (pL b)),(47,(0,0))),((wA .i64 128 []),(47,(0,0))),((wA .i64 255 (pW m)),(63,(0,0))),((wA .i64 128 []),(47,(0,0)))]
def dTm0rp_h (i:Nat):Hn:=if i=9 then⟨13,[],[],[],[]⟩ else⟨0,[],[],[],[]⟩
def dTm0rp_b (a b:Nat) (d m:Nat) (j:Nat→Value):List Value:=([j 0,j 1,.pointer (some ⟨0,0,none⟩),.pointer (some ⟨1,0,none⟩),.pointer (some ⟨2,0,none⟩),.pointer (some ⟨3,0,none⟩)] ++ (J j 6 3 ++ ([.pointer (some ⟨4,0,none⟩)] ++ (J j 10 78))))
theorem dTm0rp_0 (a b:Nat) (d m:Nat) (j:Nat→Value):evC (yty.en tabV0) dTm0rp_h (cAt [1,1,1,1,0] (bdy Try.f28)) ⟨dTmJ_s a b d m j,dTmJ_m a b d m,True,[]⟩=some (.normal,⟨dTm0rp_b a b d m j,[((wA .i64 128 (pL a)),(47,(0,0))),((wA .i64 128 (pL b)),(47,(0,0))),((wA .i64 128 []),(47,(0,0))),((wA .i64 255 (pW m)),(63,(0,0))),((wA .i64 128 []),(47,(0,0)))],True,[]⟩):=by kernel_rfl
theorem dTm0r (a b:Nat) (d m:Nat) (j:Nat→Value) (hm:m=rd (cm a b 128) 127)  {c0:Prop} {ch0:List (Option Value)}:Runs Try.prog (cAt [1,1,1,1,0] (bdy Try.f28)) ⟨dTmJ_s a b d m j,dTmJ_m a b d m,c0,ch0⟩ (fun e s=>e= .normal∧∃(j:Nat→Value) (c:Prop) (ch:List (Option Value)),s=⟨dTmK_s a b d m j,dTmK_m a b d m,c,ch⟩) 0:=by
  refine(runs_ev mixed _ (dTm0rp_0 a b d m j) trivial).mono ?_
  rintro e s ⟨rfl,hs⟩
  refine⟨rfl,fun q=>s.tm.getD q undef,s.c,s.ch,?_⟩
  subst hs
  kernel_rfl
abbrev dTmL_s (a b:Nat) (d m:Nat) (i:Nat) (j:Nat→Value):List Value:=(J j 0 4 ++ ([.pointer (some ⟨2,0,none⟩),.pointer (some ⟨3,0,none⟩)] ++ (J j 6 3 ++ ([.pointer (some ⟨4,0,none⟩),.int .i64 ((i:Nat):Int)] ++ (J j 11 77)))))
abbrev dTmL_m (a b:Nat) (d m:Nat) (i:Nat):List Mb:= [((wA .i64 128 (pL a)),(47,(0,0))),((wA .i64 128 (pL b)),(47,(0,0))),((wA .i64 128 []),(47,(0,0))),((wA .i64 255 (pW m)),(63,(0,0))),((wA .i64 128 (pL (zm m i))),(47,(0,0)))]
def dTm0sp_h (i:Nat):Hn:=if i=9 then⟨13,[],[],[],[]⟩ else⟨0,[],[],[],[]⟩
def dTm0sp_b (a b:Nat) (d m:Nat) (j:Nat→Value):List Value:=(J j 0 4 ++ ([.pointer (some ⟨2,0,none⟩),.pointer (some ⟨3,0,none⟩)] ++ (J j 6 3 ++ ([.pointer (some ⟨4,0,none⟩),.int .i64 0] ++ (J j 11 77)))))
theorem dTm0sp_0 (a b:Nat) (d m:Nat) (j:Nat→Value):evC (yty.en tabV0) dTm0sp_h (cAt [1,1,1,1,1,0,0] (bdy Try.f28)) ⟨dTmK_s a b d m j,dTmK_m a b d m,True,[]⟩=some (.normal,⟨dTm0sp_b a b d m j,[((wA .i64 128 (pL a)),(47,(0,0))),((wA .i64 128 (pL b)),(47,(0,0))),((wA .i64 128 []),(47,(0,0))),((wA .i64 255 (pW m)),(63,(0,0))),((wA .i64 128 []),(47,(0,0)))],(True∧True),[]⟩):=by kernel_rfl
theorem dTm0s (a b:Nat) (d m:Nat) (j:Nat→Value) (hm:m=rd (cm a b 128) 127)  {c0:Prop} {ch0:List (Option Value)}:Runs Try.prog (cAt [1,1,1,1,1,0,0] (bdy Try.f28)) ⟨dTmK_s a b d m j,dTmK_m a b d m,c0,ch0⟩ (fun e s=>e= .normal∧∃(j:Nat→Value) (c:Prop) (ch:List (Option Value)),(0≤128)∧s=⟨dTmL_s a b d m 0 j,dTmL_m a b d m 0,c,ch⟩) 0:=by
  refine(runs_ev mixed _ (dTm0sp_0 a b d m j) ⟨trivial,trivial⟩).mono ?_
  rintro e s ⟨rfl,hs⟩
  refine⟨rfl,fun q=>s.tm.getD q undef,s.c,s.ch,by omega,?_⟩
  subst hs
  kernel_rfl
def dTm0tp_h (i:Nat):Hn:=if i=9 then⟨13,[],[],[],[]⟩ else⟨0,[],[],[],[]⟩
def dTm0tp_b (a b:Nat) (d m:Nat) (i:Nat) (j:Nat→Value):List Value:=(J j 0 4 ++ ([.pointer (some ⟨2,0,none⟩),.pointer (some ⟨3,0,none⟩)] ++ (J j 6 3 ++ ([.pointer (some ⟨4,0,none⟩),.int .i64 ((i+1:Nat):Int)] ++ (J j 11 67 ++ ([.int .i64 ((i:Nat):Int),.bool true,.int .i64 ((i:Nat):Int),.int .i64 ((i+1:Nat):Int),.int .i64 ((i:Nat):Int),.int .i64 ((i:Nat):Int),.pointer (some ⟨3,0+Int.toNat ((i:Nat):Int)*1,none⟩),.int .i64 ((pW m).getD i 0),.pointer (some ⟨4,0+Int.toNat ((i:Nat):Int)*1,none⟩),j 87]))))))
theorem dTm0tp_0 (a b:Nat) (d m:Nat) (i:Nat) (j:Nat→Value):evC (yty.en tabV0) dTm0tp_h (cAt [1,1,1,1,1,0,1,0,0] (bdy Try.f28)) ⟨dTmL_s a b d m i j,dTmL_m a b d m i,True,[some (.bool true),some (.int .i64 ((pW m).getD i 0)),some (.agg (wA .i64 128 (pL (zm m (i+1))))),some (.int .i64 ((i+1:Nat):Int))]⟩=some (.normal,⟨dTm0tp_b a b d m i j,[((wA .i64 128 (pL a)),(47,(0,0))),((wA .i64 128 (pL b)),(47,(0,0))),((wA .i64 128 []),(47,(0,0))),((wA .i64 255 (pW m)),(63,(0,0))),((wA .i64 128 (pL (zm m (i+1)))),(47,(0,0)))],(((((((((((True∧True)∧(True∧(decide (((i:Nat):Int)<128))=true))∧True)∧True)∧(0≤((i:Nat):Int)∧((i:Nat):Int)<((255:Nat):Int)))∧(((wA .i64 255 (pW m))[(0+Int.toNat ((i:Nat):Int)*1)]? =some (.int .i64 ((pW m).getD i 0)))∧((pW m).getD i 0)=((pW m).getD i 0)))∧(0≤((i:Nat):Int)∧((i:Nat):Int)<((128:Nat):Int)))∧((0+Int.toNat ((i:Nat):Int)*1)<(wA .i64 128 (pL (zm m i))).size∧(wA .i64 128 (pL (zm m i))).setIfInBounds (0+Int.toNat ((i:Nat):Int)*1) (.int .i64 ((pW m).getD i 0))=(wA .i64 128 (pL (zm m (i+1))))))∧True)∧(True∧(IntKind.i64.wrap (((i:Nat):Int)+1))=((i+1:Nat):Int)))∧True),[]⟩):=by kernel_rfl
theorem dTm0t (a b:Nat) (d m:Nat) (i:Nat) (j:Nat→Value) (hm:m=rd (cm a b 128) 127) (hi:i≤128) (hlt:i<128) {c0:Prop} {ch0:List (Option Value)}:Runs Try.prog (cAt [1,1,1,1,1,0,1,0,0] (bdy Try.f28)) ⟨dTmL_s a b d m i j,dTmL_m a b d m i,c0,ch0⟩ (fun e s=>e= .normal∧∃(j:Nat→Value) (c:Prop) (ch:List (Option Value)),((i+1)≤128)∧s=⟨dTmL_s a b d m (i+1) j,dTmL_m a b d m (i+1),c,ch⟩) 0:=by
  have h0:(decide (((i:Nat):Int)<128))=true:=(decide_eq_true (by omega))
  refine(runs_ev mixed _ (dTm0tp_0 a b d m i j) ⟨⟨⟨⟨⟨⟨⟨⟨⟨⟨⟨trivial,trivial⟩,⟨trivial,h0⟩⟩,trivial⟩,trivial⟩,(by(try simp only[Int.toNat_natCast,wA_size]);omega)⟩,⟨(wA_get (by omega) (by omega)),rfl⟩⟩,(by(try simp only[Int.toNat_natCast,wA_size]);omega)⟩,pL_put hlt (by rw[Int.toNat_natCast];omega) (fun k _=>bt_zm _ _ (pW_at (by omega)) k)⟩,trivial⟩,⟨trivial,(by rw[IntKind.wrap_i64];omega)⟩⟩,trivial⟩).mono ?_
  rintro e s ⟨rfl,hs⟩
  refine⟨rfl,fun q=>s.tm.getD q undef,s.c,s.ch,by omega,?_⟩
  subst hs
  kernel_rfl
abbrev dTmM_s (a b:Nat) (d m:Nat) (i:Nat) (j:Nat→Value):List Value:=(J j 0 4 ++ ([.pointer (some ⟨2,0,none⟩),.pointer (some ⟨3,0,none⟩)] ++ (J j 6 3 ++ ([.pointer (some ⟨4,0,none⟩)] ++ (J j 10 78)))))
abbrev dTmM_m (a b:Nat) (d m:Nat) (i:Nat):List Mb:= [((wA .i64 128 (pL a)),(47,(0,0))),((wA .i64 128 (pL b)),(47,(0,0))),((wA .i64 128 []),(47,(0,0))),((wA .i64 255 (pW m)),(63,(0,0))),((wA .i64 128 (pL m)),(47,(0,0)))]
def dTm0up_h (i:Nat):Hn:=if i=9 then⟨13,[],[],[],[]⟩ else⟨0,[],[],[],[]⟩
def dTm0up_b (a b:Nat) (d m:Nat) (i:Nat) (j:Nat→Value):List Value:=(J j 0 4 ++ ([.pointer (some ⟨2,0,none⟩),.pointer (some ⟨3,0,none⟩)] ++ (J j 6 3 ++ ([.pointer (some ⟨4,0,none⟩),.int .i64 ((i:Nat):Int)] ++ (J j 11 67 ++ ([.int .i64 ((i:Nat):Int),.bool false] ++ (J j 80 8)))))))
theorem dTm0up_0 (a b:Nat) (d m:Nat) (i:Nat) (j:Nat→Value):evC (yty.en tabV0) dTm0up_h (cAt [1,1,1,1,1,0,1,0,0] (bdy Try.f28)) ⟨dTmL_s a b d m i j,dTmL_m a b d m i,True,[some (.bool false)]⟩=some ((.exit 6),⟨dTm0up_b a b d m i j,[((wA .i64 128 (pL a)),(47,(0,0))),((wA .i64 128 (pL b)),(47,(0,0))),((wA .i64 128 []),(47,(0,0))),((wA .i64 255 (pW m)),(63,(0,0))),((wA .i64 128 (pL (zm m i))),(47,(0,0)))],((True∧True)∧(True∧(decide (((i:Nat):Int)<128))=false)),[]⟩):=by kernel_rfl
theorem dTm0u (a b:Nat) (d m:Nat) (i:Nat) (j:Nat→Value) (hm:m=rd (cm a b 128) 127) (hi:i≤128) (hge:¬ i<128) {c0:Prop} {ch0:List (Option Value)}:Runs Try.prog (cAt [1,1,1,1,1,0,1,0,0] (bdy Try.f28)) ⟨dTmL_s a b d m i j,dTmL_m a b d m i,c0,ch0⟩ (fun e s=>e=(.exit 6)∧∃(j:Nat→Value) (c:Prop) (ch:List (Option Value)),s=⟨dTmM_s a b d m i j,dTmM_m a b d m i,c,ch⟩) 0:=by
  have h0:(decide (((i:Nat):Int)<128))=false:=(decide_eq_false (by omega))
  refine(runs_ev mixed _ (dTm0up_0 a b d m i j) ⟨⟨trivial,trivial⟩,⟨trivial,h0⟩⟩).mono ?_
  rintro e s ⟨rfl,hs⟩
  refine⟨rfl,fun q=>s.tm.getD q undef,s.c,s.ch,?_⟩
  subst hs
  rw[show i=128 by omega,zm_eq,pL_mod]
  kernel_rfl
theorem dTm0vL (a:Nat) (b:Nat) (d:Nat) (m:Nat) (j:Nat→Value) (hm:m=rd (cm a b 128) 127) (ihi:0≤128)  {c0:Prop} {ch0:List (Option Value)}:Runs Try.prog (.loop (cAt [1,1,1,1,1,0,1,0,0] (bdy Try.f28))) ⟨dTmL_s a b d m 0 j,dTmL_m a b d m 0,c0,ch0⟩ (fun e s=>e= .exit 6∧∃(i:Nat) (j:Nat→Value) (c:Prop) (ch:List (Option Value)),s=⟨dTmM_s a b d m i j,dTmM_m a b d m i,c,ch⟩) 0:=by
  refine runs_loop (fun M s=>∃(i:Nat) (j:Nat→Value) (c:Prop) (ch:List (Option Value)),(i≤128)∧M=128 - i∧s=⟨dTmL_s a b d m i j,dTmL_m a b d m i,c,ch⟩) (128 - 0) ⟨0,j,c0,ch0,ihi,rfl,rfl⟩ ?_
  rintro M s ⟨i,j,c,ch,hi,rfl,rfl⟩
  by_cases hlt:i<128
  · skip
    refine(dTm0t a b d m i j hm hi hlt).mono ?_
    rintro e s ⟨rfl,j,c,ch,f1,rfl⟩
    exact .inl ⟨rfl,128 - (i+1),by omega,⟨(i+1),j,c,ch,f1,rfl,rfl⟩⟩
  · refine (dTm0u a b d m i j hm hi hlt).mono ?_
    intro e s hh
    obtain⟨rfl,j,c,ch,rfl⟩:=hh
    exact .inr ⟨by simp,rfl,i,j,c,ch,rfl⟩
theorem dTm0v (a:Nat) (b:Nat) (d:Nat) (m:Nat) (j:Nat→Value) (hm:m=rd (cm a b 128) 127) (ihi:0≤128)  {c0:Prop} {ch0:List (Option Value)}:Runs Try.prog (cAt [1,1,1,1,1,0,1] (bdy Try.f28)) ⟨dTmL_s a b d m 0 j,dTmL_m a b d m 0,c0,ch0⟩ (fun e s=>e= .normal∧∃(i:Nat) (j:Nat→Value) (c:Prop) (ch:List (Option Value)),s=⟨dTmM_s a b d m i j,dTmM_m a b d m i,c,ch⟩) 0:=by
  rw[show(cAt [1,1,1,1,1,0,1] (bdy Try.f28))= .block 6 (.loop (cAt [1,1,1,1,1,0,1,0,0] (bdy Try.f28))) from by kernel_rfl]
  refine runs_block (dTm0vL a b d m j hm ihi ) ?_
  rintro e s ⟨rfl,hh⟩
  exact .inl ⟨rfl,rfl,hh⟩
theorem dTm0w (a b:Nat) (d m:Nat) (j:Nat→Value) (hm:m=rd (cm a b 128) 127)  {c0:Prop} {ch0:List (Option Value)}:Runs Try.prog (cAt [1,1,1,1,1,0] (bdy Try.f28)) ⟨dTmK_s a b d m j,dTmK_m a b d m,c0,ch0⟩ (fun e s=>e= .normal∧∃(i1:Nat) (j:Nat→Value) (c:Prop) (ch:List (Option Value)),s=⟨dTmM_s a b d m i1 j,dTmM_m a b d m i1,c,ch⟩) 0:=by
  rw[show(cAt [1,1,1,1,1,0] (bdy Try.f28))=(.seq (cAt [1,1,1,1,1,0,0] (bdy Try.f28)) (cAt [1,1,1,1,1,0,1] (bdy Try.f28))) from by kernel_rfl]
  refine runs_seq (dTm0s a b d m j hm ) (fun s hh=> ?_) (fun e s hne hh=>absurd hh.1 hne)
  obtain⟨_,j,c,ch,f0_1,rfl⟩:=hh
  refine(dTm0v a b d m j hm f0_1 ).mono ?_
  rintro e s ⟨rfl,i1,j,c,ch,rfl⟩
  exact⟨rfl,i1,j,c,ch,rfl⟩
abbrev dTmN_s (a b:Nat) (d m:Nat) (i:Nat) (j:Nat→Value):List Value:=(J j 0 4 ++ ([.pointer (some ⟨2,0,none⟩)] ++ (J j 5 83)))
abbrev dTmN_m (a b:Nat) (d m:Nat) (i:Nat):List Mb:= [((wA .i64 128 (pL a)),(47,(0,0))),((wA .i64 128 (pL b)),(47,(0,0))),((wA .i64 128 (pL m)),(47,(0,0))),((wA .i64 255 (pW m)),(63,(0,0))),((wA .i64 128 (pL m)),(47,(0,0)))]
def dTm0xp_h (i:Nat):Hn:=if i=9 then⟨13,[],[],[],[]⟩ else⟨0,[],[],[],[]⟩
def dTm0xp_b (a b:Nat) (d m:Nat) (i:Nat) (j:Nat→Value):List Value:=(J j 0 4 ++ ([.pointer (some ⟨2,0,none⟩),.pointer (some ⟨3,0,none⟩)] ++ (J j 6 3 ++ ([.pointer (some ⟨4,0,none⟩)] ++ (J j 10 77 ++ ([.agg (wA .i64 128 (pL m))]))))))
theorem dTm0xp_0 (a b:Nat) (d m:Nat) (i:Nat) (j:Nat→Value):evC (yty.en tabV0) dTm0xp_h (cAt [1,1,1,1,1,1] (bdy Try.f28)) ⟨dTmM_s a b d m i j,dTmM_m a b d m i,True,[]⟩=some (.ret,⟨dTm0xp_b a b d m i j,[((wA .i64 128 (pL a)),(47,(0,0))),((wA .i64 128 (pL b)),(47,(0,0))),((wA .i64 128 (pL m)),(47,(0,0))),((wA .i64 255 (pW m)),(63,(0,0))),((wA .i64 128 (pL m)),(47,(0,0)))],((True∧True)∧((wA .i64 128 (pL m)).all (fun v=>v.oneCell')=true)),[]⟩):=by kernel_rfl
theorem dTm0x (a b:Nat) (d m:Nat) (i:Nat) (j:Nat→Value) (hm:m=rd (cm a b 128) 127)  {c0:Prop} {ch0:List (Option Value)}:Runs Try.prog (cAt [1,1,1,1,1,1] (bdy Try.f28)) ⟨dTmM_s a b d m i j,dTmM_m a b d m i,c0,ch0⟩ (fun e s=>e= .ret∧∃(j:Nat→Value) (c:Prop) (ch:List (Option Value)),s=⟨dTmN_s a b d m i j,dTmN_m a b d m i,c,ch⟩) 0:=by
  refine(runs_ev mixed _ (dTm0xp_0 a b d m i j) ⟨⟨trivial,trivial⟩,(wA_one _ _ _)⟩).mono ?_
  rintro e s ⟨rfl,hs⟩
  refine⟨rfl,fun q=>s.tm.getD q undef,s.c,s.ch,?_⟩
  subst hs
  kernel_rfl
theorem dTmu (a b:Nat) (j:Nat→Value) (ha:a<2 ^ 128) (hb:b<2 ^ 128)  {c0:Prop} {ch0:List (Option Value)}:Runs Try.prog (cAt [] (bdy Try.f28)) ⟨dTmA_s a b j,dTmA_m a b,c0,ch0⟩ (fun e s=>e= .ret∧∃(i12:Nat) (m12:Nat) (d13:Nat) (m13:Nat) (i15:Nat) (j:Nat→Value) (c:Prop) (ch:List (Option Value)),(m13=rd (cm a b 128) 127)∧s=⟨dTmN_s a b d13 m13 i15 j,dTmN_m a b d13 m13 i15,c,ch⟩) 0:=by
  rw[show(cAt [] (bdy Try.f28))=(.seq (cAt [0] (bdy Try.f28)) (.seq (cAt [1,0] (bdy Try.f28)) (.seq (cAt [1,1,0] (bdy Try.f28)) (.seq (cAt [1,1,1,0] (bdy Try.f28)) (.seq (cAt [1,1,1,1,0] (bdy Try.f28)) (.seq (cAt [1,1,1,1,1,0] (bdy Try.f28)) (cAt [1,1,1,1,1,1] (bdy Try.f28)))))))) from by kernel_rfl]
  refine runs_seq (dTm0 a b j ha hb ) (fun s hh=> ?_) (fun e s hne hh=>absurd hh.1 hne)
  obtain⟨_,j,c,ch,rfl⟩:=hh
  refine runs_seq (dTm1 a b j ha hb ) (fun s hh=> ?_) (fun e s hne hh=>absurd hh.1 hne)
  obtain⟨_,j,c,ch,rfl⟩:=hh
  refine runs_seq (dTm0j a b j ha hb ) (fun s hh=> ?_) (fun e s hne hh=>absurd hh.1 hne)
  obtain⟨_,i12,m12,j,c,ch,f2_2,rfl⟩:=hh
  refine runs_seq (dTm0q a b i12 m12 j ha hb f2_2 ) (fun s hh=> ?_) (fun e s hne hh=>absurd hh.1 hne)
  obtain⟨_,d13,m13,j,c,ch,f3_0,rfl⟩:=hh
  refine runs_seq (dTm0r a b d13 m13 j f3_0 ) (fun s hh=> ?_) (fun e s hne hh=>absurd hh.1 hne)
  obtain⟨_,j,c,ch,rfl⟩:=hh
  refine runs_seq (dTm0w a b d13 m13 j f3_0 ) (fun s hh=> ?_) (fun e s hne hh=>absurd hh.1 hne)
  obtain⟨_,i15,j,c,ch,rfl⟩:=hh
  refine(dTm0x a b d13 m13 i15 j f3_0 ).mono ?_
  rintro e s ⟨rfl,j,c,ch,rfl⟩
  exact⟨rfl,i12,m12,d13,m13,i15,j,c,ch,f3_0,rfl⟩
theorem dTm_c (a b:Nat) (ha:a<2 ^ 128) (hb:b<2 ^ 128):Pure Try.prog 28 #[.agg (wA .i64 128 (pL a)),.agg (wA .i64 128 (pL b))] (.agg (wA .i64 128 (pL (tmN a b)))):=by
  refine pure_runs (E:=(yty.en tabV0)) Try.func28 (c:=bdy Try.f28) (by kernel_rfl) (args:= [.agg (wA .i64 128 (pL a)),.agg (wA .i64 128 (pL b))]) (by kernel_rfl) (K:=fun e s=>e= .ret∧resS (yty.en tabV0) s Try.f28.results.toList=some [.agg (wA .i64 128 (pL (tmN a b)))]) ?_ (fun e s h=>⟨h.1,_,h.2,rfl⟩)
  refine(dTmu a b (fun _=>undef) ha hb).mono ?_
  rintro e s ⟨rfl,i,m,d,m2,i2,j,c,ch,hm,rfl⟩
  rw[show pL (tmN a b)=pL m2 from by rw[hm];exact pL_mod]
  exact⟨rfl,by kernel_rfl⟩
abbrev dByA_s (n:Nat) (j:Nat→Value):List Value:=([.agg (wA .i64 128 (pL n))] ++ (JU 22))
abbrev dByA_m (n:Nat):List Mb:= []
abbrev dByB_s (n:Nat) (j:Nat→Value):List Value:=([j 0,.pointer (some ⟨0,0,none⟩),.pointer (some ⟨1,0,none⟩)] ++ (J j 3 20))
abbrev dByB_m (n:Nat):List Mb:= [((wA .i64 128 (pL n)),(47,(0,0))),((wA .u8 16 []),(22,(0,0)))]
def dBy0p_h (i:Nat):Hn:=if i=5 then⟨13,[],[],[],[]⟩ else⟨0,[],[],[],[]⟩
def dBy0p_b (n:Nat) (j:Nat→Value):List Value:=([.agg (wA .i64 128 (pL n)),.pointer (some ⟨0,0,none⟩),.pointer (some ⟨1,0,none⟩)] ++ (JU 20))
theorem dBy0p_0 (n:Nat) (j:Nat→Value):evC (yty.en tabV0) dBy0p_h (cAt [0] (bdy Try.f29)) ⟨dByA_s n j,dByA_m n,True,[]⟩=some (.normal,⟨dBy0p_b n j,[((wA .i64 128 (pL n)),(47,(0,0))),((wA .u8 16 []),(22,(0,0)))],True,[]⟩):=by kernel_rfl
theorem dBy0 (n:Nat) (j:Nat→Value) (hn:n<2 ^ 128)  {c0:Prop} {ch0:List (Option Value)}:Runs Try.prog (cAt [0] (bdy Try.f29)) ⟨dByA_s n j,dByA_m n,c0,ch0⟩ (fun e s=>e= .normal∧∃(j:Nat→Value) (c:Prop) (ch:List (Option Value)),s=⟨dByB_s n j,dByB_m n,c,ch⟩) 0:=by
  refine(runs_ev mixed _ (dBy0p_0 n j) trivial).mono ?_
  rintro e s ⟨rfl,hs⟩
  refine⟨rfl,fun q=>s.tm.getD q undef,s.c,s.ch,?_⟩
  subst hs
  kernel_rfl
abbrev dByC_s (n:Nat) (j:Nat→Value):List Value:=([j 0,.pointer (some ⟨0,0,none⟩),.pointer (some ⟨1,0,none⟩),.pointer (some ⟨2,0,none⟩)] ++ (J j 4 19))
abbrev dByC_m (n:Nat):List Mb:= [((wA .i64 128 (pL n)),(47,(0,0))),((wA .u8 16 []),(22,(0,0))),((wA .u8 16 []),(22,(0,0)))]
def dBy1p_h (i:Nat):Hn:=if i=5 then⟨13,[],[],[],[]⟩ else⟨0,[],[],[],[]⟩
def dBy1p_b (n:Nat) (j:Nat→Value):List Value:=([j 0,.pointer (some ⟨0,0,none⟩),.pointer (some ⟨1,0,none⟩),.pointer (some ⟨2,0,none⟩)] ++ (J j 4 19))
theorem dBy1p_0 (n:Nat) (j:Nat→Value):evC (yty.en tabV0) dBy1p_h (cAt [1,0] (bdy Try.f29)) ⟨dByB_s n j,dByB_m n,True,[]⟩=some (.normal,⟨dBy1p_b n j,[((wA .i64 128 (pL n)),(47,(0,0))),((wA .u8 16 []),(22,(0,0))),((wA .u8 16 []),(22,(0,0)))],True,[]⟩):=by kernel_rfl
theorem dBy1 (n:Nat) (j:Nat→Value) (hn:n<2 ^ 128)  {c0:Prop} {ch0:List (Option Value)}:Runs Try.prog (cAt [1,0] (bdy Try.f29)) ⟨dByB_s n j,dByB_m n,c0,ch0⟩ (fun e s=>e= .normal∧∃(j:Nat→Value) (c:Prop) (ch:List (Option Value)),s=⟨dByC_s n j,dByC_m n,c,ch⟩) 0:=by
  refine(runs_ev mixed _ (dBy1p_0 n j) trivial).mono ?_
  rintro e s ⟨rfl,hs⟩
  refine⟨rfl,fun q=>s.tm.getD q undef,s.c,s.ch,?_⟩
  subst hs
  kernel_rfl
abbrev dByD_s (n:Nat) (d:Nat) (j:Nat→Value):List Value:=([j 0,.pointer (some ⟨0,0,none⟩),.pointer (some ⟨1,0,none⟩),.pointer (some ⟨2,0,none⟩),.int .i64 (127 - ((d:Nat):Int))] ++ (J j 5 18))
abbrev dByD_m (n:Nat) (d:Nat):List Mb:= [((wA .i64 128 (pL n)),(47,(0,0))),((wA .u8 16 []),(22,(0,0))),((wA .u8 16 (bBd n d)),(22,(0,0)))]
def dBy2p_h (i:Nat):Hn:=if i=5 then⟨13,[],[],[],[]⟩ else⟨0,[],[],[],[]⟩
def dBy2p_b (n:Nat) (j:Nat→Value):List Value:=([j 0,.pointer (some ⟨0,0,none⟩),.pointer (some ⟨1,0,none⟩),.pointer (some ⟨2,0,none⟩),.int .i64 127] ++ (J j 5 18))
theorem dBy2p_0 (n:Nat) (j:Nat→Value):evC (yty.en tabV0) dBy2p_h (cAt [1,1,0,0] (bdy Try.f29)) ⟨dByC_s n j,dByC_m n,True,[]⟩=some (.normal,⟨dBy2p_b n j,[((wA .i64 128 (pL n)),(47,(0,0))),((wA .u8 16 []),(22,(0,0))),((wA .u8 16 []),(22,(0,0)))],(True∧True),[]⟩):=by kernel_rfl
theorem dBy2 (n:Nat) (j:Nat→Value) (hn:n<2 ^ 128)  {c0:Prop} {ch0:List (Option Value)}:Runs Try.prog (cAt [1,1,0,0] (bdy Try.f29)) ⟨dByC_s n j,dByC_m n,c0,ch0⟩ (fun e s=>e= .normal∧∃(j:Nat→Value) (c:Prop) (ch:List (Option Value)),(0≤128)∧s=⟨dByD_s n 0 j,dByD_m n 0,c,ch⟩) 0:=by
  refine(runs_ev mixed _ (dBy2p_0 n j) ⟨trivial,trivial⟩).mono ?_
  rintro e s ⟨rfl,hs⟩
  refine⟨rfl,fun q=>s.tm.getD q undef,s.c,s.ch,by omega,?_⟩
  subst hs
  kernel_rfl
def dBy3p_h (i:Nat):Hn:=if i=5 then⟨13,[],[],[],[]⟩ else⟨0,[],[],[],[]⟩
def dBy3p_b (n:Nat) (d:Nat) (j:Nat→Value):List Value:=([j 0,.pointer (some ⟨0,0,none⟩),.pointer (some ⟨1,0,none⟩),.pointer (some ⟨2,0,none⟩),.int .i64 (127 - ((d+1:Nat):Int)),.int .i64 (127 - ((d:Nat):Int)),.bool true,.int .i64 (127 - ((d:Nat):Int)),.int .i64 (127 - ((d+1:Nat):Int)),.int .i64 (127 - ((d:Nat):Int)),.int .i64 (((127 - d) / 8:Nat):Int),.int .i64 (127 - ((d:Nat):Int)),.int .i64 (((127 - d) / 8:Nat):Int),.pointer (some ⟨2,0+Int.toNat (((127 - d) / 8:Nat):Int)*1,none⟩),.int .u8 ((bBd n d).getD ((127 - d) / 8) 0),.int .u8 (IntKind.u8.wrap (2*((bBd n d).getD ((127 - d) / 8) 0))),.int .i64 (127 - ((d:Nat):Int)),.pointer (some ⟨0,0+Int.toNat (127 - ((d:Nat):Int))*1,none⟩),.int .i64 (bt n (127 - d)),.int .u8 (IntKind.u8.wrap (bt n (127 - d))),.int .u8 (IntKind.u8.wrap ((IntKind.u8.wrap (2*((bBd n d).getD ((127 - d) / 8) 0)))+(IntKind.u8.wrap (bt n (127 - d))))),.pointer (some ⟨2,0+Int.toNat (((127 - d) / 8:Nat):Int)*1,none⟩),j 22])
theorem dBy3p_0 (n:Nat) (d:Nat) (j:Nat→Value):evC (yty.en tabV0) dBy3p_h (cAt [1,1,0,1,0,0] (bdy Try.f29)) ⟨dByD_s n d j,dByD_m n d,True,[some (.bool true),some (.int .i64 (((127 - d) / 8:Nat):Int)),some (.int .i64 (((127 - d) / 8:Nat):Int)),some (.int .u8 ((bBd n d).getD ((127 - d) / 8) 0)),none,some (.int .i64 (bt n (127 - d))),none,none,some (.agg (wA .u8 16 (bBd n (d+1)))),some (.int .i64 (127 - ((d+1:Nat):Int)))]⟩=some (.normal,⟨dBy3p_b n d j,[((wA .i64 128 (pL n)),(47,(0,0))),((wA .u8 16 []),(22,(0,0))),((wA .u8 16 (bBd n (d+1))),(22,(0,0)))],(((((((((((((((((((True∧True)∧(True∧(decide (0≤(127 - ((d:Nat):Int))))=true))∧True)∧(((8:Int)≠0)∧(IntKind.i64.wrap (Int.tdiv (127 - ((d:Nat):Int)) 8))=(((127 - d) / 8:Nat):Int)))∧True)∧(((8:Int)≠0)∧(IntKind.i64.wrap (Int.tdiv (127 - ((d:Nat):Int)) 8))=(((127 - d) / 8:Nat):Int)))∧(0≤(((127 - d) / 8:Nat):Int)∧(((127 - d) / 8:Nat):Int)<((16:Nat):Int)))∧(((wA .u8 16 (bBd n d))[(0+Int.toNat (((127 - d) / 8:Nat):Int)*1)]? =some (.int .u8 ((bBd n d).getD ((127 - d) / 8) 0)))∧((bBd n d).getD ((127 - d) / 8) 0)=((bBd n d).getD ((127 - d) / 8) 0)))∧True)∧True)∧(0≤(127 - ((d:Nat):Int))∧(127 - ((d:Nat):Int))<((128:Nat):Int)))∧(((wA .i64 128 (pL n))[(0+Int.toNat (127 - ((d:Nat):Int))*1)]? =some (.int .i64 (bt n (127 - d))))∧(bt n (127 - d))=(bt n (127 - d))))∧True)∧True)∧(0≤(((127 - d) / 8:Nat):Int)∧(((127 - d) / 8:Nat):Int)<((16:Nat):Int)))∧((0+Int.toNat (((127 - d) / 8:Nat):Int)*1)<(wA .u8 16 (bBd n d)).size∧(wA .u8 16 (bBd n d)).setIfInBounds (0+Int.toNat (((127 - d) / 8:Nat):Int)*1) (.int .u8 (IntKind.u8.wrap ((IntKind.u8.wrap (2*((bBd n d).getD ((127 - d) / 8) 0)))+(IntKind.u8.wrap (bt n (127 - d))))))=(wA .u8 16 (bBd n (d+1)))))∧True)∧(True∧(IntKind.i64.wrap ((127 - ((d:Nat):Int)) - 1))=(127 - ((d+1:Nat):Int))))∧True),[]⟩):=by kernel_rfl
theorem dBy3 (n:Nat) (d:Nat) (j:Nat→Value) (hn:n<2 ^ 128) (hd:d≤128) (hlt:d<128) {c0:Prop} {ch0:List (Option Value)}:Runs Try.prog (cAt [1,1,0,1,0,0] (bdy Try.f29)) ⟨dByD_s n d j,dByD_m n d,c0,ch0⟩ (fun e s=>e= .normal∧∃(j:Nat→Value) (c:Prop) (ch:List (Option Value)),((d+1)≤128)∧s=⟨dByD_s n (d+1) j,dByD_m n (d+1),c,ch⟩) 0:=by
  have h0:(decide (0≤(127 - ((d:Nat):Int))))=true:=(decide_eq_true (by omega))
  refine(runs_ev mixed _ (dBy3p_0 n d j) ⟨⟨⟨⟨⟨⟨⟨⟨⟨⟨⟨⟨⟨⟨⟨⟨⟨⟨⟨trivial,trivial⟩,⟨trivial,h0⟩⟩,trivial⟩,⟨(by decide),(by rw[show(127 - ((d:Nat):Int))=((127 - d:Nat):Int) by omega,show(8:Int)=((8:Nat):Int) from rfl,tdivN_i64 _ _ (by omega)])⟩⟩,trivial⟩,⟨(by decide),(by rw[show(127 - ((d:Nat):Int))=((127 - d:Nat):Int) by omega,show(8:Int)=((8:Nat):Int) from rfl,tdivN_i64 _ _ (by omega)])⟩⟩,(by(try simp only[Int.toNat_natCast,wA_size]);omega)⟩,⟨(wA_get (by omega) (by omega)),rfl⟩⟩,trivial⟩,trivial⟩,(by(try simp only[Int.toNat_natCast,wA_size]);omega)⟩,⟨(by rw[show 0+Int.toNat (127 - ((d:Nat):Int))*1=127 - d by omega,wA_at (by omega),pL_at (by omega)]),rfl⟩⟩,trivial⟩,trivial⟩,(by(try simp only[Int.toNat_natCast,wA_size]);omega)⟩,bB_put3 hn hlt (by rw[Int.toNat_natCast];omega)⟩,trivial⟩,⟨trivial,(by rw[IntKind.wrap_i64];omega)⟩⟩,trivial⟩).mono ?_
  rintro e s ⟨rfl,hs⟩
  refine⟨rfl,fun q=>s.tm.getD q undef,s.c,s.ch,by omega,?_⟩
  subst hs
  kernel_rfl
abbrev dByE_s (n:Nat) (d:Nat) (j:Nat→Value):List Value:=([j 0,.pointer (some ⟨0,0,none⟩),.pointer (some ⟨1,0,none⟩),.pointer (some ⟨2,0,none⟩)] ++ (J j 4 19))
abbrev dByE_m (n:Nat) (d:Nat):List Mb:= [((wA .i64 128 (pL n)),(47,(0,0))),((wA .u8 16 []),(22,(0,0))),((wA .u8 16 (eL n)),(22,(0,0)))]
def dBy4p_h (i:Nat):Hn:=if i=5 then⟨13,[],[],[],[]⟩ else⟨0,[],[],[],[]⟩
def dBy4p_b (n:Nat) (d:Nat) (j:Nat→Value):List Value:=([j 0,.pointer (some ⟨0,0,none⟩),.pointer (some ⟨1,0,none⟩),.pointer (some ⟨2,0,none⟩),.int .i64 (127 - ((d:Nat):Int)),.int .i64 (127 - ((d:Nat):Int)),.bool false] ++ (J j 7 16))
theorem dBy4p_0 (n:Nat) (d:Nat) (j:Nat→Value):evC (yty.en tabV0) dBy4p_h (cAt [1,1,0,1,0,0] (bdy Try.f29)) ⟨dByD_s n d j,dByD_m n d,True,[some (.bool false)]⟩=some ((.exit 0),⟨dBy4p_b n d j,[((wA .i64 128 (pL n)),(47,(0,0))),((wA .u8 16 []),(22,(0,0))),((wA .u8 16 (bBd n d)),(22,(0,0)))],((True∧True)∧(True∧(decide (0≤(127 - ((d:Nat):Int))))=false)),[]⟩):=by kernel_rfl
theorem dBy4 (n:Nat) (d:Nat) (j:Nat→Value) (hn:n<2 ^ 128) (hd:d≤128) (hge:¬ d<128) {c0:Prop} {ch0:List (Option Value)}:Runs Try.prog (cAt [1,1,0,1,0,0] (bdy Try.f29)) ⟨dByD_s n d j,dByD_m n d,c0,ch0⟩ (fun e s=>e=(.exit 0)∧∃(j:Nat→Value) (c:Prop) (ch:List (Option Value)),s=⟨dByE_s n d j,dByE_m n d,c,ch⟩) 0:=by
  have h0:(decide (0≤(127 - ((d:Nat):Int))))=false:=(decide_eq_false (by omega))
  refine(runs_ev mixed _ (dBy4p_0 n d j) ⟨⟨trivial,trivial⟩,⟨trivial,h0⟩⟩).mono ?_
  rintro e s ⟨rfl,hs⟩
  refine⟨rfl,fun q=>s.tm.getD q undef,s.c,s.ch,?_⟩
  subst hs
  rw[(bBd_eq hn d).1,show 128 - d=0 by omega,bB_end]
  kernel_rfl
theorem dBy5L (n:Nat) (j:Nat→Value) (hn:n<2 ^ 128) (ihd:0≤128)  {c0:Prop} {ch0:List (Option Value)}:Runs Try.prog (.loop (cAt [1,1,0,1,0,0] (bdy Try.f29))) ⟨dByD_s n 0 j,dByD_m n 0,c0,ch0⟩ (fun e s=>e= .exit 0∧∃(d:Nat) (j:Nat→Value) (c:Prop) (ch:List (Option Value)),s=⟨dByE_s n d j,dByE_m n d,c,ch⟩) 0:=by
  refine runs_loop (fun M s=>∃(d:Nat) (j:Nat→Value) (c:Prop) (ch:List (Option Value)),(d≤128)∧M=128 - d∧s=⟨dByD_s n d j,dByD_m n d,c,ch⟩) (128 - 0) ⟨0,j,c0,ch0,ihd,rfl,rfl⟩ ?_
  rintro M s ⟨d,j,c,ch,hd,rfl,rfl⟩
  by_cases hlt:d<128
  · skip
    refine(dBy3 n d j hn hd hlt).mono ?_
    rintro e s ⟨rfl,j,c,ch,f1,rfl⟩
    exact .inl ⟨rfl,128 - (d+1),by omega,⟨(d+1),j,c,ch,f1,rfl,rfl⟩⟩
  · refine (dBy4 n d j hn hd hlt).mono ?_
    intro e s hh
    obtain⟨rfl,j,c,ch,rfl⟩:=hh
    exact .inr ⟨by simp,rfl,d,j,c,ch,rfl⟩
theorem dBy5 (n:Nat) (j:Nat→Value) (hn:n<2 ^ 128) (ihd:0≤128)  {c0:Prop} {ch0:List (Option Value)}:Runs Try.prog (cAt [1,1,0,1] (bdy Try.f29)) ⟨dByD_s n 0 j,dByD_m n 0,c0,ch0⟩ (fun e s=>e= .normal∧∃(d:Nat) (j:Nat→Value) (c:Prop) (ch:List (Option Value)),s=⟨dByE_s n d j,dByE_m n d,c,ch⟩) 0:=by
  rw[show(cAt [1,1,0,1] (bdy Try.f29))= .block 0 (.loop (cAt [1,1,0,1,0,0] (bdy Try.f29))) from by kernel_rfl]
  refine runs_block (dBy5L n j hn ihd ) ?_
  rintro e s ⟨rfl,hh⟩
  exact .inl ⟨rfl,rfl,hh⟩
theorem dBy6 (n:Nat) (j:Nat→Value) (hn:n<2 ^ 128)  {c0:Prop} {ch0:List (Option Value)}:Runs Try.prog (cAt [1,1,0] (bdy Try.f29)) ⟨dByC_s n j,dByC_m n,c0,ch0⟩ (fun e s=>e= .normal∧∃(d1:Nat) (j:Nat→Value) (c:Prop) (ch:List (Option Value)),s=⟨dByE_s n d1 j,dByE_m n d1,c,ch⟩) 0:=by
  rw[show(cAt [1,1,0] (bdy Try.f29))=(.seq (cAt [1,1,0,0] (bdy Try.f29)) (cAt [1,1,0,1] (bdy Try.f29))) from by kernel_rfl]
  refine runs_seq (dBy2 n j hn ) (fun s hh=> ?_) (fun e s hne hh=>absurd hh.1 hne)
  obtain⟨_,j,c,ch,f0_1,rfl⟩:=hh
  refine(dBy5 n j hn f0_1 ).mono ?_
  rintro e s ⟨rfl,d1,j,c,ch,rfl⟩
  exact⟨rfl,d1,j,c,ch,rfl⟩
abbrev dByF_s (n:Nat) (d:Nat) (j:Nat→Value):List Value:=([j 0,j 1,.pointer (some ⟨1,0,none⟩)] ++ (J j 3 20))
abbrev dByF_m (n:Nat) (d:Nat):List Mb:= [((wA .i64 128 (pL n)),(47,(0,0))),((wA .u8 16 (eL n)),(22,(0,0))),((wA .u8 16 (eL n)),(22,(0,0)))]
def dBy7p_h (i:Nat):Hn:=if i=5 then⟨13,[],[],[],[]⟩ else⟨0,[],[],[],[]⟩
def dBy7p_b (n:Nat) (d:Nat) (j:Nat→Value):List Value:=([j 0,.pointer (some ⟨0,0,none⟩),.pointer (some ⟨1,0,none⟩),.pointer (some ⟨2,0,none⟩)] ++ (J j 4 18 ++ ([.agg (wA .u8 16 (eL n))])))
theorem dBy7p_0 (n:Nat) (d:Nat) (j:Nat→Value):evC (yty.en tabV0) dBy7p_h (cAt [1,1,1] (bdy Try.f29)) ⟨dByE_s n d j,dByE_m n d,True,[]⟩=some (.ret,⟨dBy7p_b n d j,[((wA .i64 128 (pL n)),(47,(0,0))),((wA .u8 16 (eL n)),(22,(0,0))),((wA .u8 16 (eL n)),(22,(0,0)))],((True∧True)∧((wA .u8 16 (eL n)).all (fun v=>v.oneCell')=true)),[]⟩):=by kernel_rfl
theorem dBy7 (n:Nat) (d:Nat) (j:Nat→Value) (hn:n<2 ^ 128)  {c0:Prop} {ch0:List (Option Value)}:Runs Try.prog (cAt [1,1,1] (bdy Try.f29)) ⟨dByE_s n d j,dByE_m n d,c0,ch0⟩ (fun e s=>e= .ret∧∃(j:Nat→Value) (c:Prop) (ch:List (Option Value)),s=⟨dByF_s n d j,dByF_m n d,c,ch⟩) 0:=by
  refine(runs_ev mixed _ (dBy7p_0 n d j) ⟨⟨trivial,trivial⟩,(wA_one _ _ _)⟩).mono ?_
  rintro e s ⟨rfl,hs⟩
  refine⟨rfl,fun q=>s.tm.getD q undef,s.c,s.ch,?_⟩
  subst hs
  kernel_rfl
theorem dByu (n:Nat) (j:Nat→Value) (hn:n<2 ^ 128)  {c0:Prop} {ch0:List (Option Value)}:Runs Try.prog (cAt [] (bdy Try.f29)) ⟨dByA_s n j,dByA_m n,c0,ch0⟩ (fun e s=>e= .ret∧∃(d12:Nat) (j:Nat→Value) (c:Prop) (ch:List (Option Value)),s=⟨dByF_s n d12 j,dByF_m n d12,c,ch⟩) 0:=by
  rw[show(cAt [] (bdy Try.f29))=(.seq (cAt [0] (bdy Try.f29)) (.seq (cAt [1,0] (bdy Try.f29)) (.seq (cAt [1,1,0] (bdy Try.f29)) (cAt [1,1,1] (bdy Try.f29))))) from by kernel_rfl]
  refine runs_seq (dBy0 n j hn ) (fun s hh=> ?_) (fun e s hne hh=>absurd hh.1 hne)
  obtain⟨_,j,c,ch,rfl⟩:=hh
  refine runs_seq (dBy1 n j hn ) (fun s hh=> ?_) (fun e s hne hh=>absurd hh.1 hne)
  obtain⟨_,j,c,ch,rfl⟩:=hh
  refine runs_seq (dBy6 n j hn ) (fun s hh=> ?_) (fun e s hne hh=>absurd hh.1 hne)
  obtain⟨_,d12,j,c,ch,rfl⟩:=hh
  refine(dBy7 n d12 j hn ).mono ?_
  rintro e s ⟨rfl,j,c,ch,rfl⟩
  exact⟨rfl,d12,j,c,ch,rfl⟩
theorem dBy_c (n:Nat) (hn:n<2 ^ 128):Pure Try.prog 29 #[.agg (wA .i64 128 (pL n))] (.agg (wA .u8 16 (eL n))):=by
  refine pure_runs (E:=(yty.en tabV0)) Try.func29 (c:=bdy Try.f29) (by kernel_rfl) (args:= [.agg (wA .i64 128 (pL n))]) (by kernel_rfl) (K:=fun e s=>e= .ret∧resS (yty.en tabV0) s Try.f29.results.toList=some [.agg (wA .u8 16 (eL n))]) ?_ (fun e s h=>⟨h.1,_,h.2,rfl⟩)
  refine(dByu n (fun _=>undef) hn).mono ?_
  rintro e s ⟨rfl,d,j,c,ch,rfl⟩
  exact⟨rfl,by kernel_rfl⟩
theorem nL_w (L:List Int):nL (dL8 (wA .u8 16 L))=nL L:=nL_of fun i hi=>by rw[dL8_wA,if_pos hi]
theorem pq {n:Nat} (h:n<2 ^ 128):wA .i64 128 (pL n)=wA .i64 128 (pL (dP (wA .i64 128 (pL n))))∧dP (wA .i64 128 (pL n))<2 ^ 128:=by
  rw[dP_pL h]
  exact⟨rfl,h⟩
def dpo:Entry Try.prog:=entL Try.func27 (by kernel_rfl) (by kernel_rfl) 16 (fun L=> .agg (wA .i64 128 (pL (nL L)))) (fun L h=>dPo_c L h)
def dtm : Entry Try.prog where
  f:=28
  g:=fun _ xs=>match xs with| [.agg a,.agg b]=>some (.agg (wA .i64 128 (pL (tmN (dP a) (dP b)))),((a=wA .i64 128 (pL (dP a))∧dP a<2 ^ 128)∧(b=wA .i64 128 (pL (dP b))∧dP b<2 ^ 128)))|_=>none
  ok := fun _ xs u c e hc w β _ _ => by
    split at e
    · simp only [Option.some.injEq, Prod.mk.injEq] at e
      obtain⟨rfl,rfl⟩:=e
      have:=dTm_c _ _ hc.1.2 hc.2.2 w
      rw[← hc.1.1,← hc.2.1] at this
      exact this
    · cases e
  call:=call_of Try.func28 (by kernel_rfl) (by kernel_rfl)
def dby : Entry Try.prog where
  f:=29
  g:=fun _ xs=>match xs with| [.agg a]=>some (.agg (wA .u8 16 (eL (dP a))),(a=wA .i64 128 (pL (dP a))∧dP a<2 ^ 128))|_=>none
  ok := fun _ xs u c e hc w β _ _ => by
    split at e
    · simp only [Option.some.injEq, Prod.mk.injEq] at e
      obtain⟨rfl,rfl⟩:=e
      have:=dBy_c _ hc.2 w
      rw[← hc.1] at this
      exact this
    · cases e
  call:=call_of Try.func29 (by kernel_rfl) (by kernel_rfl)
def tabY1:List (Entry Try.prog):=dpo :: dtm :: dby :: []
abbrev dDoA_s (A B:List Int) (j:Nat→Value):List Value:=([.agg (wA .u8 16 A),.agg (wA .u8 16 B)] ++ (JU 50))
abbrev dDoA_m (A B:List Int):List Mb:= []
abbrev dDoB_s (A B:List Int) (j:Nat→Value):List Value:=([j 0,j 1,.pointer (some ⟨0,0,none⟩),.pointer (some ⟨1,0,none⟩),.pointer (some ⟨2,0,none⟩)] ++ (J j 5 47))
abbrev dDoB_m (A B:List Int):List Mb:= [((wA .u8 16 A),(22,(0,0))),((wA .u8 16 B),(22,(0,0))),((wA .u8 16 []),(22,(0,0)))]
def dDo0p_h (i:Nat):Hn:=if i=1 then⟨6,[],[],[],[]⟩ else⟨0,[],[],[],[]⟩
def dDo0p_b (A B:List Int) (j:Nat→Value):List Value:=([.agg (wA .u8 16 A),.agg (wA .u8 16 B),.pointer (some ⟨0,0,none⟩),.pointer (some ⟨1,0,none⟩),.pointer (some ⟨2,0,none⟩)] ++ (JU 47))
theorem dDo0p_0 (A B:List Int) (j:Nat→Value):evC (yty.en tabY1) dDo0p_h (cAt [0] (bdy Try.f10)) ⟨dDoA_s A B j,dDoA_m A B,True,[]⟩=some (.normal,⟨dDo0p_b A B j,[((wA .u8 16 A),(22,(0,0))),((wA .u8 16 B),(22,(0,0))),((wA .u8 16 []),(22,(0,0)))],True,[]⟩):=by kernel_rfl
theorem dDo0 (A B:List Int) (j:Nat→Value) (hA:By A) (hB:By B)  {c0:Prop} {ch0:List (Option Value)}:Runs Try.prog (cAt [0] (bdy Try.f10)) ⟨dDoA_s A B j,dDoA_m A B,c0,ch0⟩ (fun e s=>e= .normal∧∃(j:Nat→Value) (c:Prop) (ch:List (Option Value)),s=⟨dDoB_s A B j,dDoB_m A B,c,ch⟩) 0:=by
  refine(runs_ev mixed _ (dDo0p_0 A B j) trivial).mono ?_
  rintro e s ⟨rfl,hs⟩
  refine⟨rfl,fun q=>s.tm.getD q undef,s.c,s.ch,?_⟩
  subst hs
  kernel_rfl
abbrev dDoC_s (A B:List Int) (p:Nat) (j:Nat→Value):List Value:=(J j 0 4 ++ ([.pointer (some ⟨2,0,none⟩),.pointer (some ⟨3,0,none⟩)] ++ (J j 6 46)))
abbrev dDoC_m (A B:List Int) (p:Nat):List Mb:= [((wA .u8 16 A),(22,(0,0))),((wA .u8 16 B),(22,(0,0))),((wA .u8 16 []),(22,(0,0))),((wA .i64 128 (pL p)),(47,(0,0)))]
def dDo1p_h (i:Nat):Hn:=if i=1 then⟨6,[],[],[],[]⟩ else⟨0,[],[],[],[]⟩
def dDo1p_b (A B:List Int) (j:Nat→Value):List Value:=([j 0,j 1,.pointer (some ⟨0,0,none⟩),.pointer (some ⟨1,0,none⟩),.pointer (some ⟨2,0,none⟩),.pointer (some ⟨3,0,none⟩)] ++ (J j 6 4 ++ ([.agg (wA .u8 16 A),.agg (wA .i64 128 (pL (nL (dL8 (wA .u8 16 A))))),.agg (wA .u8 16 B),.agg (wA .i64 128 (pL (nL (dL8 (wA .u8 16 B))))),.agg (wA .i64 128 (pL (tmN (dP (wA .i64 128 (pL (nL (dL8 (wA .u8 16 A)))))) (dP (wA .i64 128 (pL (nL (dL8 (wA .u8 16 B)))))))))] ++ (J j 15 37))))
theorem dDo1p_0 (A B:List Int) (j:Nat→Value):evC (yty.en tabY1) dDo1p_h (cAt [1,0] (bdy Try.f10)) ⟨dDoB_s A B j,dDoB_m A B,True,[]⟩=some (.normal,⟨dDo1p_b A B j,[((wA .u8 16 A),(22,(0,0))),((wA .u8 16 B),(22,(0,0))),((wA .u8 16 []),(22,(0,0))),((wA .i64 128 (pL (tmN (dP (wA .i64 128 (pL (nL (dL8 (wA .u8 16 A)))))) (dP (wA .i64 128 (pL (nL (dL8 (wA .u8 16 B))))))))),(47,(0,0)))],((((((True∧True)∧((wA .u8 16 A)=wA .u8 16 (dL8 (wA .u8 16 A))∧By (dL8 (wA .u8 16 A))))∧True)∧((wA .u8 16 B)=wA .u8 16 (dL8 (wA .u8 16 B))∧By (dL8 (wA .u8 16 B))))∧(((wA .i64 128 (pL (nL (dL8 (wA .u8 16 A)))))=wA .i64 128 (pL (dP (wA .i64 128 (pL (nL (dL8 (wA .u8 16 A)))))))∧dP (wA .i64 128 (pL (nL (dL8 (wA .u8 16 A)))))<2 ^ 128)∧((wA .i64 128 (pL (nL (dL8 (wA .u8 16 B)))))=wA .i64 128 (pL (dP (wA .i64 128 (pL (nL (dL8 (wA .u8 16 B)))))))∧dP (wA .i64 128 (pL (nL (dL8 (wA .u8 16 B)))))<2 ^ 128)))∧((wA .i64 128 (pL (tmN (dP (wA .i64 128 (pL (nL (dL8 (wA .u8 16 A)))))) (dP (wA .i64 128 (pL (nL (dL8 (wA .u8 16 B))))))))).all (fun v=>v.oneCell')=true)),[]⟩):=by kernel_rfl
theorem dDo1 (A B:List Int) (j:Nat→Value) (hA:By A) (hB:By B)  {c0:Prop} {ch0:List (Option Value)}:Runs Try.prog (cAt [1,0] (bdy Try.f10)) ⟨dDoB_s A B j,dDoB_m A B,c0,ch0⟩ (fun e s=>e= .normal∧∃(j:Nat→Value) (c:Prop) (ch:List (Option Value)),((tmN (dP (wA .i64 128 (pL (nL (dL8 (wA .u8 16 A)))))) (dP (wA .i64 128 (pL (nL (dL8 (wA .u8 16 B)))))))=(tmN (nL A) (nL B)))∧((tmN (dP (wA .i64 128 (pL (nL (dL8 (wA .u8 16 A)))))) (dP (wA .i64 128 (pL (nL (dL8 (wA .u8 16 B)))))))<2 ^ 128)∧s=⟨dDoC_s A B (tmN (dP (wA .i64 128 (pL (nL (dL8 (wA .u8 16 A)))))) (dP (wA .i64 128 (pL (nL (dL8 (wA .u8 16 B))))))) j,dDoC_m A B (tmN (dP (wA .i64 128 (pL (nL (dL8 (wA .u8 16 A)))))) (dP (wA .i64 128 (pL (nL (dL8 (wA .u8 16 B))))))),c,ch⟩) 0:=by
  refine(runs_ev mixed _ (dDo1p_0 A B j) ⟨⟨⟨⟨⟨⟨trivial,trivial⟩,dq hA⟩,trivial⟩,dq hB⟩,⟨pq (nL_lt (by_dL8 hA)),pq (nL_lt (by_dL8 hB))⟩⟩,(wA_one _ _ _)⟩).mono ?_
  rintro e s ⟨rfl,hs⟩
  refine⟨rfl,fun q=>s.tm.getD q undef,s.c,s.ch,by rw[dP_pL (nL_lt (by_dL8 hA)),dP_pL (nL_lt (by_dL8 hB)),nL_w,nL_w],tmN_lt _ _,?_⟩
  subst hs
  kernel_rfl
abbrev dDoD_s (A B:List Int) (i p:Nat) (j:Nat→Value):List Value:=(J j 0 4 ++ ([.pointer (some ⟨2,0,none⟩),.pointer (some ⟨3,0,none⟩),.int .i64 ((i:Nat):Int)] ++ (J j 7 45)))
abbrev dDoD_m (A B:List Int) (i p:Nat):List Mb:= [((wA .u8 16 A),(22,(0,0))),((wA .u8 16 B),(22,(0,0))),((wA .u8 16 []),(22,(0,0))),((wA .i64 128 (pL p)),(47,(0,0)))]
def dDo2p_h (i:Nat):Hn:=if i=1 then⟨6,[],[],[],[]⟩ else⟨0,[],[],[],[]⟩
def dDo2p_b (A B:List Int) (p:Nat) (j:Nat→Value):List Value:=(J j 0 4 ++ ([.pointer (some ⟨2,0,none⟩),.pointer (some ⟨3,0,none⟩),.int .i64 0] ++ (J j 7 45)))
theorem dDo2p_0 (A B:List Int) (p:Nat) (j:Nat→Value):evC (yty.en tabY1) dDo2p_h (cAt [1,1,0,0] (bdy Try.f10)) ⟨dDoC_s A B p j,dDoC_m A B p,True,[]⟩=some (.normal,⟨dDo2p_b A B p j,[((wA .u8 16 A),(22,(0,0))),((wA .u8 16 B),(22,(0,0))),((wA .u8 16 []),(22,(0,0))),((wA .i64 128 (pL p)),(47,(0,0)))],(True∧True),[]⟩):=by kernel_rfl
theorem dDo2 (A B:List Int) (p:Nat) (j:Nat→Value) (hA:By A) (hB:By B) (hp:p=(tmN (nL A) (nL B))) (hl:p<2 ^ 128)  {c0:Prop} {ch0:List (Option Value)}:Runs Try.prog (cAt [1,1,0,0] (bdy Try.f10)) ⟨dDoC_s A B p j,dDoC_m A B p,c0,ch0⟩ (fun e s=>e= .normal∧∃(j:Nat→Value) (c:Prop) (ch:List (Option Value)),(p=fI 0 (tmN (nL A) (nL B)))∧(0≤128)∧s=⟨dDoD_s A B 0 p j,dDoD_m A B 0 p,c,ch⟩) 0:=by
  refine(runs_ev mixed _ (dDo2p_0 A B p j) ⟨trivial,trivial⟩).mono ?_
  rintro e s ⟨rfl,hs⟩
  refine⟨rfl,fun q=>s.tm.getD q undef,s.c,s.ch,hp,by omega,?_⟩
  subst hs
  kernel_rfl
abbrev dDoE_s (A B:List Int) (i p:Nat) (j:Nat→Value):List Value:=(J j 0 4 ++ ([.pointer (some ⟨2,0,none⟩),.pointer (some ⟨3,0,none⟩),.int .i64 ((i:Nat):Int)] ++ (J j 7 45)))
abbrev dDoE_m (A B:List Int) (i p:Nat):List Mb:= [((wA .u8 16 A),(22,(0,0))),((wA .u8 16 B),(22,(0,0))),((wA .u8 16 []),(22,(0,0))),((wA .i64 128 (pL p)),(47,(0,0)))]
def dDo3p_h (i:Nat):Hn:=if i=1 then⟨6,[],[],[],[]⟩ else⟨0,[],[],[],[]⟩
def dDo3p_b (A B:List Int) (i p:Nat) (j:Nat→Value):List Value:=(J j 0 4 ++ ([.pointer (some ⟨2,0,none⟩),.pointer (some ⟨3,0,none⟩),.int .i64 ((i:Nat):Int)] ++ (J j 7 8 ++ ([.int .i64 ((i:Nat):Int),.bool true] ++ (J j 17 35)))))
theorem dDo3p_0 (A B:List Int) (i p:Nat) (j:Nat→Value):evC (yty.en tabY1) dDo3p_h (cAt [1,1,0,1,0,0,0] (bdy Try.f10)) ⟨dDoD_s A B i p j,dDoD_m A B i p,True,[some (.bool true)]⟩=some (.normal,⟨dDo3p_b A B i p j,[((wA .u8 16 A),(22,(0,0))),((wA .u8 16 B),(22,(0,0))),((wA .u8 16 []),(22,(0,0))),((wA .i64 128 (pL p)),(47,(0,0)))],((True∧True)∧(True∧(decide (((i:Nat):Int)<128))=true)),[]⟩):=by kernel_rfl
theorem dDo3 (A B:List Int) (i p:Nat) (j:Nat→Value) (hA:By A) (hB:By B) (hp:p=fI i (tmN (nL A) (nL B))) (hl:p<2 ^ 128) (hi:i≤128) (hlt:i<128) {c0:Prop} {ch0:List (Option Value)}:Runs Try.prog (cAt [1,1,0,1,0,0,0] (bdy Try.f10)) ⟨dDoD_s A B i p j,dDoD_m A B i p,c0,ch0⟩ (fun e s=>e= .normal∧∃(j:Nat→Value) (c:Prop) (ch:List (Option Value)),(i<128)∧s=⟨dDoE_s A B i p j,dDoE_m A B i p,c,ch⟩) 0:=by
  have h0:(decide (((i:Nat):Int)<128))=true:=(decide_eq_true (by omega))
  refine(runs_ev mixed _ (dDo3p_0 A B i p j) ⟨⟨trivial,trivial⟩,⟨trivial,h0⟩⟩).mono ?_
  rintro e s ⟨rfl,hs⟩
  refine⟨rfl,fun q=>s.tm.getD q undef,s.c,s.ch,hlt,?_⟩
  subst hs
  kernel_rfl
abbrev dDoF_s (A B:List Int) (i p:Nat) (j:Nat→Value):List Value:=(J j 0 4 ++ ([.pointer (some ⟨2,0,none⟩),.pointer (some ⟨3,0,none⟩),.int .i64 ((i:Nat):Int),.int .i64 ((pL p).getD 0 0)] ++ (J j 8 44)))
abbrev dDoF_m (A B:List Int) (i p:Nat):List Mb:= [((wA .u8 16 A),(22,(0,0))),((wA .u8 16 B),(22,(0,0))),((wA .u8 16 []),(22,(0,0))),((wA .i64 128 (pL p)),(47,(0,0)))]
def dDo4p_h (i:Nat):Hn:=if i=1 then⟨6,[],[],[],[]⟩ else⟨0,[],[],[],[]⟩
def dDo4p_b (A B:List Int) (i p:Nat) (j:Nat→Value):List Value:=(J j 0 4 ++ ([.pointer (some ⟨2,0,none⟩),.pointer (some ⟨3,0,none⟩),.int .i64 ((i:Nat):Int),.int .i64 ((pL p).getD 0 0)] ++ (J j 8 11 ++ ([.pointer (some ⟨3,0,none⟩),.int .i64 ((pL p).getD 0 0)] ++ (J j 21 31)))))
theorem dDo4p_0 (A B:List Int) (i p:Nat) (j:Nat→Value):evC (yty.en tabY1) dDo4p_h (cAt [1,1,0,1,0,0,1,0,0,0] (bdy Try.f10)) ⟨dDoE_s A B i p j,dDoE_m A B i p,True,[some (.int .i64 ((pL p).getD 0 0))]⟩=some (.normal,⟨dDo4p_b A B i p j,[((wA .u8 16 A),(22,(0,0))),((wA .u8 16 B),(22,(0,0))),((wA .u8 16 []),(22,(0,0))),((wA .i64 128 (pL p)),(47,(0,0)))],(((True∧((0:Int)≤0∧(0:Int)<((128:Nat):Int)))∧(((wA .i64 128 (pL p))[0]? =some (.int .i64 ((pL p).getD 0 0)))∧((pL p).getD 0 0)=((pL p).getD 0 0)))∧True),[]⟩):=by kernel_rfl
theorem dDo4 (A B:List Int) (i p:Nat) (j:Nat→Value) (hA:By A) (hB:By B) (hp:p=fI i (tmN (nL A) (nL B))) (hl:p<2 ^ 128) (hi:i≤128) (hi1:i<128)  {c0:Prop} {ch0:List (Option Value)}:Runs Try.prog (cAt [1,1,0,1,0,0,1,0,0,0] (bdy Try.f10)) ⟨dDoE_s A B i p j,dDoE_m A B i p,c0,ch0⟩ (fun e s=>e= .normal∧∃(j:Nat→Value) (c:Prop) (ch:List (Option Value)),s=⟨dDoF_s A B i p j,dDoF_m A B i p,c,ch⟩) 0:=by
  refine(runs_ev mixed _ (dDo4p_0 A B i p j) ⟨⟨⟨trivial,⟨by decide,by decide⟩⟩,⟨(wA_get (by omega) (by omega)),rfl⟩⟩,trivial⟩).mono ?_
  rintro e s ⟨rfl,hs⟩
  refine⟨rfl,fun q=>s.tm.getD q undef,s.c,s.ch,?_⟩
  subst hs
  kernel_rfl
abbrev dDoG_s (A B:List Int) (i p:Nat) (j:Nat→Value):List Value:=(J j 0 4 ++ ([.pointer (some ⟨2,0,none⟩),.pointer (some ⟨3,0,none⟩),.int .i64 ((i:Nat):Int),.int .i64 ((pL p).getD 0 0),.pointer (some ⟨4,0,none⟩)] ++ (J j 9 43)))
abbrev dDoG_m (A B:List Int) (i p:Nat):List Mb:= [((wA .u8 16 A),(22,(0,0))),((wA .u8 16 B),(22,(0,0))),((wA .u8 16 []),(22,(0,0))),((wA .i64 128 (pL p)),(47,(0,0))),((wA .i64 128 []),(47,(0,0)))]
def dDo5p_h (i:Nat):Hn:=if i=1 then⟨6,[],[],[],[]⟩ else⟨0,[],[],[],[]⟩
def dDo5p_b (A B:List Int) (i p:Nat) (j:Nat→Value):List Value:=(J j 0 4 ++ ([.pointer (some ⟨2,0,none⟩),.pointer (some ⟨3,0,none⟩),.int .i64 ((i:Nat):Int),.int .i64 ((pL p).getD 0 0),.pointer (some ⟨4,0,none⟩)] ++ (J j 9 43)))
theorem dDo5p_0 (A B:List Int) (i p:Nat) (j:Nat→Value):evC (yty.en tabY1) dDo5p_h (cAt [1,1,0,1,0,0,1,0,0,1,0] (bdy Try.f10)) ⟨dDoF_s A B i p j,dDoF_m A B i p,True,[]⟩=some (.normal,⟨dDo5p_b A B i p j,[((wA .u8 16 A),(22,(0,0))),((wA .u8 16 B),(22,(0,0))),((wA .u8 16 []),(22,(0,0))),((wA .i64 128 (pL p)),(47,(0,0))),((wA .i64 128 []),(47,(0,0)))],True,[]⟩):=by kernel_rfl
theorem dDo5 (A B:List Int) (i p:Nat) (j:Nat→Value) (hA:By A) (hB:By B) (hp:p=fI i (tmN (nL A) (nL B))) (hl:p<2 ^ 128) (hi:i≤128) (hi1:i<128)  {c0:Prop} {ch0:List (Option Value)}:Runs Try.prog (cAt [1,1,0,1,0,0,1,0,0,1,0] (bdy Try.f10)) ⟨dDoF_s A B i p j,dDoF_m A B i p,c0,ch0⟩ (fun e s=>e= .normal∧∃(j:Nat→Value) (c:Prop) (ch:List (Option Value)),s=⟨dDoG_s A B i p j,dDoG_m A B i p,c,ch⟩) 0:=by
  refine(runs_ev mixed _ (dDo5p_0 A B i p j) trivial).mono ?_
  rintro e s ⟨rfl,hs⟩
  refine⟨rfl,fun q=>s.tm.getD q undef,s.c,s.ch,?_⟩
  subst hs
  kernel_rfl
abbrev dDoH_s (A B:List Int) (i p:Nat) (k:Nat) (j:Nat→Value):List Value:=(J j 0 4 ++ ([.pointer (some ⟨2,0,none⟩),.pointer (some ⟨3,0,none⟩),.int .i64 ((i:Nat):Int),.int .i64 ((pL p).getD 0 0),.pointer (some ⟨4,0,none⟩),.int .i64 ((k:Nat):Int)] ++ (J j 10 42)))
abbrev dDoH_m (A B:List Int) (i p:Nat) (k:Nat):List Mb:= [((wA .u8 16 A),(22,(0,0))),((wA .u8 16 B),(22,(0,0))),((wA .u8 16 []),(22,(0,0))),((wA .i64 128 (pL p)),(47,(0,0))),((wA .i64 128 (pL (zm (p / 2) k))),(47,(0,0)))]
def dDo6p_h (i:Nat):Hn:=if i=1 then⟨6,[],[],[],[]⟩ else⟨0,[],[],[],[]⟩
def dDo6p_b (A B:List Int) (i p:Nat) (j:Nat→Value):List Value:=(J j 0 4 ++ ([.pointer (some ⟨2,0,none⟩),.pointer (some ⟨3,0,none⟩),.int .i64 ((i:Nat):Int),.int .i64 ((pL p).getD 0 0),.pointer (some ⟨4,0,none⟩),.int .i64 0] ++ (J j 10 42)))
theorem dDo6p_0 (A B:List Int) (i p:Nat) (j:Nat→Value):evC (yty.en tabY1) dDo6p_h (cAt [1,1,0,1,0,0,1,0,0,1,1,0,0] (bdy Try.f10)) ⟨dDoG_s A B i p j,dDoG_m A B i p,True,[]⟩=some (.normal,⟨dDo6p_b A B i p j,[((wA .u8 16 A),(22,(0,0))),((wA .u8 16 B),(22,(0,0))),((wA .u8 16 []),(22,(0,0))),((wA .i64 128 (pL p)),(47,(0,0))),((wA .i64 128 []),(47,(0,0)))],(True∧True),[]⟩):=by kernel_rfl
theorem dDo6 (A B:List Int) (i p:Nat) (j:Nat→Value) (hA:By A) (hB:By B) (hp:p=fI i (tmN (nL A) (nL B))) (hl:p<2 ^ 128) (hi:i≤128) (hi1:i<128)  {c0:Prop} {ch0:List (Option Value)}:Runs Try.prog (cAt [1,1,0,1,0,0,1,0,0,1,1,0,0] (bdy Try.f10)) ⟨dDoG_s A B i p j,dDoG_m A B i p,c0,ch0⟩ (fun e s=>e= .normal∧∃(j:Nat→Value) (c:Prop) (ch:List (Option Value)),(0≤127)∧s=⟨dDoH_s A B i p 0 j,dDoH_m A B i p 0,c,ch⟩) 0:=by
  refine(runs_ev mixed _ (dDo6p_0 A B i p j) ⟨trivial,trivial⟩).mono ?_
  rintro e s ⟨rfl,hs⟩
  refine⟨rfl,fun q=>s.tm.getD q undef,s.c,s.ch,by omega,?_⟩
  subst hs
  kernel_rfl
def dDo7p_h (i:Nat):Hn:=if i=1 then⟨6,[],[],[],[]⟩ else⟨0,[],[],[],[]⟩
def dDo7p_b (A B:List Int) (i p:Nat) (k:Nat) (j:Nat→Value):List Value:=(J j 0 4 ++ ([.pointer (some ⟨2,0,none⟩),.pointer (some ⟨3,0,none⟩),.int .i64 ((i:Nat):Int),.int .i64 ((pL p).getD 0 0),.pointer (some ⟨4,0,none⟩),.int .i64 ((k+1:Nat):Int)] ++ (J j 10 11 ++ ([.int .i64 ((k:Nat):Int),.bool true,.int .i64 ((k:Nat):Int),.int .i64 ((k+1:Nat):Int),.int .i64 ((k:Nat):Int),.int .i64 ((k:Nat):Int),.int .i64 ((k+1:Nat):Int),.pointer (some ⟨3,0+Int.toNat ((k+1:Nat):Int)*1,none⟩),.int .i64 ((pL p).getD (k+1) 0),.pointer (some ⟨4,0+Int.toNat ((k:Nat):Int)*1,none⟩)] ++ (J j 31 21)))))
theorem dDo7p_0 (A B:List Int) (i p:Nat) (k:Nat) (j:Nat→Value):evC (yty.en tabY1) dDo7p_h (cAt [1,1,0,1,0,0,1,0,0,1,1,0,1,0,0] (bdy Try.f10)) ⟨dDoH_s A B i p k j,dDoH_m A B i p k,True,[some (.bool true),some (.int .i64 ((k+1:Nat):Int)),some (.int .i64 ((pL p).getD (k+1) 0)),some (.agg (wA .i64 128 (pL (zm (p / 2) (k+1))))),some (.int .i64 ((k+1:Nat):Int))]⟩=some (.normal,⟨dDo7p_b A B i p k j,[((wA .u8 16 A),(22,(0,0))),((wA .u8 16 B),(22,(0,0))),((wA .u8 16 []),(22,(0,0))),((wA .i64 128 (pL p)),(47,(0,0))),((wA .i64 128 (pL (zm (p / 2) (k+1)))),(47,(0,0)))],((((((((((((True∧True)∧(True∧(decide (((k:Nat):Int)<127))=true))∧True)∧True)∧(True∧(IntKind.i64.wrap (((k:Nat):Int)+1))=((k+1:Nat):Int)))∧(0≤((k+1:Nat):Int)∧((k+1:Nat):Int)<((128:Nat):Int)))∧(((wA .i64 128 (pL p))[(0+Int.toNat ((k+1:Nat):Int)*1)]? =some (.int .i64 ((pL p).getD (k+1) 0)))∧((pL p).getD (k+1) 0)=((pL p).getD (k+1) 0)))∧(0≤((k:Nat):Int)∧((k:Nat):Int)<((128:Nat):Int)))∧((0+Int.toNat ((k:Nat):Int)*1)<(wA .i64 128 (pL (zm (p / 2) k))).size∧(wA .i64 128 (pL (zm (p / 2) k))).setIfInBounds (0+Int.toNat ((k:Nat):Int)*1) (.int .i64 ((pL p).getD (k+1) 0))=(wA .i64 128 (pL (zm (p / 2) (k+1))))))∧True)∧(True∧(IntKind.i64.wrap (((k:Nat):Int)+1))=((k+1:Nat):Int)))∧True),[]⟩):=by kernel_rfl
theorem dDo7 (A B:List Int) (i p:Nat) (k:Nat) (j:Nat→Value) (hA:By A) (hB:By B) (hp:p=fI i (tmN (nL A) (nL B))) (hl:p<2 ^ 128) (hi:i≤128) (hi1:i<128) (hk:k≤127) (hlt:k<127) {c0:Prop} {ch0:List (Option Value)}:Runs Try.prog (cAt [1,1,0,1,0,0,1,0,0,1,1,0,1,0,0] (bdy Try.f10)) ⟨dDoH_s A B i p k j,dDoH_m A B i p k,c0,ch0⟩ (fun e s=>e= .normal∧∃(j:Nat→Value) (c:Prop) (ch:List (Option Value)),((k+1)≤127)∧s=⟨dDoH_s A B i p (k+1) j,dDoH_m A B i p (k+1),c,ch⟩) 0:=by
  have h0:(decide (((k:Nat):Int)<127))=true:=(decide_eq_true (by omega))
  refine(runs_ev mixed _ (dDo7p_0 A B i p k j) ⟨⟨⟨⟨⟨⟨⟨⟨⟨⟨⟨⟨trivial,trivial⟩,⟨trivial,h0⟩⟩,trivial⟩,trivial⟩,⟨trivial,(by rw[IntKind.wrap_i64];omega)⟩⟩,(by(try simp only[Int.toNat_natCast,wA_size]);omega)⟩,⟨(wA_get (by omega) (by omega)),rfl⟩⟩,(by(try simp only[Int.toNat_natCast,wA_size]);omega)⟩,pL_put (by omega) (by rw[Int.toNat_natCast];omega) (fun q _=>bt_zm _ _ (by rw[pL_at (by omega),bt_sh]) q)⟩,trivial⟩,⟨trivial,(by rw[IntKind.wrap_i64];omega)⟩⟩,trivial⟩).mono ?_
  rintro e s ⟨rfl,hs⟩
  refine⟨rfl,fun q=>s.tm.getD q undef,s.c,s.ch,by omega,?_⟩
  subst hs
  kernel_rfl
abbrev dDoI_s (A B:List Int) (i p:Nat) (k:Nat) (j:Nat→Value):List Value:=(J j 0 4 ++ ([.pointer (some ⟨2,0,none⟩),.pointer (some ⟨3,0,none⟩),.int .i64 ((i:Nat):Int),.int .i64 ((pL p).getD 0 0),.pointer (some ⟨4,0,none⟩)] ++ (J j 9 43)))
abbrev dDoI_m (A B:List Int) (i p:Nat) (k:Nat):List Mb:= [((wA .u8 16 A),(22,(0,0))),((wA .u8 16 B),(22,(0,0))),((wA .u8 16 []),(22,(0,0))),((wA .i64 128 (pL p)),(47,(0,0))),((wA .i64 128 (pL (p / 2))),(47,(0,0)))]
def dDo8p_h (i:Nat):Hn:=if i=1 then⟨6,[],[],[],[]⟩ else⟨0,[],[],[],[]⟩
def dDo8p_b (A B:List Int) (i p:Nat) (k:Nat) (j:Nat→Value):List Value:=(J j 0 4 ++ ([.pointer (some ⟨2,0,none⟩),.pointer (some ⟨3,0,none⟩),.int .i64 ((i:Nat):Int),.int .i64 ((pL p).getD 0 0),.pointer (some ⟨4,0,none⟩),.int .i64 ((k:Nat):Int)] ++ (J j 10 11 ++ ([.int .i64 ((k:Nat):Int),.bool false] ++ (J j 23 29)))))
theorem dDo8p_0 (A B:List Int) (i p:Nat) (k:Nat) (j:Nat→Value):evC (yty.en tabY1) dDo8p_h (cAt [1,1,0,1,0,0,1,0,0,1,1,0,1,0,0] (bdy Try.f10)) ⟨dDoH_s A B i p k j,dDoH_m A B i p k,True,[some (.bool false)]⟩=some ((.exit 2),⟨dDo8p_b A B i p k j,[((wA .u8 16 A),(22,(0,0))),((wA .u8 16 B),(22,(0,0))),((wA .u8 16 []),(22,(0,0))),((wA .i64 128 (pL p)),(47,(0,0))),((wA .i64 128 (pL (zm (p / 2) k))),(47,(0,0)))],((True∧True)∧(True∧(decide (((k:Nat):Int)<127))=false)),[]⟩):=by kernel_rfl
theorem dDo8 (A B:List Int) (i p:Nat) (k:Nat) (j:Nat→Value) (hA:By A) (hB:By B) (hp:p=fI i (tmN (nL A) (nL B))) (hl:p<2 ^ 128) (hi:i≤128) (hi1:i<128) (hk:k≤127) (hge:¬ k<127) {c0:Prop} {ch0:List (Option Value)}:Runs Try.prog (cAt [1,1,0,1,0,0,1,0,0,1,1,0,1,0,0] (bdy Try.f10)) ⟨dDoH_s A B i p k j,dDoH_m A B i p k,c0,ch0⟩ (fun e s=>e=(.exit 2)∧∃(j:Nat→Value) (c:Prop) (ch:List (Option Value)),s=⟨dDoI_s A B i p k j,dDoI_m A B i p k,c,ch⟩) 0:=by
  have h0:(decide (((k:Nat):Int)<127))=false:=(decide_eq_false (by omega))
  refine(runs_ev mixed _ (dDo8p_0 A B i p k j) ⟨⟨trivial,trivial⟩,⟨trivial,h0⟩⟩).mono ?_
  rintro e s ⟨rfl,hs⟩
  refine⟨rfl,fun q=>s.tm.getD q undef,s.c,s.ch,?_⟩
  subst hs
  rw[show k=127 by omega,zm_eq,Nat.mod_eq_of_lt (show p / 2<2 ^ 127 by omega)]
  kernel_rfl
theorem dDo9L (A:List Int) (B:List Int) (i:Nat) (p:Nat) (j:Nat→Value) (hA:By A) (hB:By B) (hp:p=fI i (tmN (nL A) (nL B))) (hl:p<2 ^ 128) (hi:i≤128) (hi1:i<128) (ihk:0≤127)  {c0:Prop} {ch0:List (Option Value)}:Runs Try.prog (.loop (cAt [1,1,0,1,0,0,1,0,0,1,1,0,1,0,0] (bdy Try.f10))) ⟨dDoH_s A B i p 0 j,dDoH_m A B i p 0,c0,ch0⟩ (fun e s=>e= .exit 2∧∃(k:Nat) (j:Nat→Value) (c:Prop) (ch:List (Option Value)),s=⟨dDoI_s A B i p k j,dDoI_m A B i p k,c,ch⟩) 0:=by
  refine runs_loop (fun M s=>∃(k:Nat) (j:Nat→Value) (c:Prop) (ch:List (Option Value)),(k≤127)∧M=127 - k∧s=⟨dDoH_s A B i p k j,dDoH_m A B i p k,c,ch⟩) (127 - 0) ⟨0,j,c0,ch0,ihk,rfl,rfl⟩ ?_
  rintro M s ⟨k,j,c,ch,hk,rfl,rfl⟩
  by_cases hlt:k<127
  · skip
    refine(dDo7 A B i p k j hA hB hp hl hi hi1 hk hlt).mono ?_
    rintro e s ⟨rfl,j,c,ch,f6,rfl⟩
    exact .inl ⟨rfl,127 - (k+1),by omega,⟨(k+1),j,c,ch,f6,rfl,rfl⟩⟩
  · refine (dDo8 A B i p k j hA hB hp hl hi hi1 hk hlt).mono ?_
    intro e s hh
    obtain⟨rfl,j,c,ch,rfl⟩:=hh
    exact .inr ⟨by simp,rfl,k,j,c,ch,rfl⟩
theorem dDo9 (A:List Int) (B:List Int) (i:Nat) (p:Nat) (j:Nat→Value) (hA:By A) (hB:By B) (hp:p=fI i (tmN (nL A) (nL B))) (hl:p<2 ^ 128) (hi:i≤128) (hi1:i<128) (ihk:0≤127)  {c0:Prop} {ch0:List (Option Value)}:Runs Try.prog (cAt [1,1,0,1,0,0,1,0,0,1,1,0,1] (bdy Try.f10)) ⟨dDoH_s A B i p 0 j,dDoH_m A B i p 0,c0,ch0⟩ (fun e s=>e= .normal∧∃(k:Nat) (j:Nat→Value) (c:Prop) (ch:List (Option Value)),s=⟨dDoI_s A B i p k j,dDoI_m A B i p k,c,ch⟩) 0:=by
  rw[show(cAt [1,1,0,1,0,0,1,0,0,1,1,0,1] (bdy Try.f10))= .block 2 (.loop (cAt [1,1,0,1,0,0,1,0,0,1,1,0,1,0,0] (bdy Try.f10))) from by kernel_rfl]
  refine runs_block (dDo9L A B i p j hA hB hp hl hi hi1 ihk ) ?_
  rintro e s ⟨rfl,hh⟩
  exact .inl ⟨rfl,rfl,hh⟩
theorem dDo0a (A B:List Int) (i p:Nat) (j:Nat→Value) (hA:By A) (hB:By B) (hp:p=fI i (tmN (nL A) (nL B))) (hl:p<2 ^ 128) (hi:i≤128) (hi1:i<128)  {c0:Prop} {ch0:List (Option Value)}:Runs Try.prog (cAt [1,1,0,1,0,0,1,0,0,1,1,0] (bdy Try.f10)) ⟨dDoG_s A B i p j,dDoG_m A B i p,c0,ch0⟩ (fun e s=>e= .normal∧∃(k1:Nat) (j:Nat→Value) (c:Prop) (ch:List (Option Value)),s=⟨dDoI_s A B i p k1 j,dDoI_m A B i p k1,c,ch⟩) 0:=by
  rw[show(cAt [1,1,0,1,0,0,1,0,0,1,1,0] (bdy Try.f10))=(.seq (cAt [1,1,0,1,0,0,1,0,0,1,1,0,0] (bdy Try.f10)) (cAt [1,1,0,1,0,0,1,0,0,1,1,0,1] (bdy Try.f10))) from by kernel_rfl]
  refine runs_seq (dDo6 A B i p j hA hB hp hl hi hi1 ) (fun s hh=> ?_) (fun e s hne hh=>absurd hh.1 hne)
  obtain⟨_,j,c,ch,f0_6,rfl⟩:=hh
  refine(dDo9 A B i p j hA hB hp hl hi hi1 f0_6 ).mono ?_
  rintro e s ⟨rfl,k1,j,c,ch,rfl⟩
  exact⟨rfl,k1,j,c,ch,rfl⟩
abbrev dDoJ_s (A B:List Int) (i p:Nat) (k:Nat) (v:Nat) (j:Nat→Value):List Value:=(J j 0 4 ++ ([.pointer (some ⟨2,0,none⟩),.pointer (some ⟨3,0,none⟩),.int .i64 ((i:Nat):Int),.int .i64 ((pL p).getD 0 0),.pointer (some ⟨4,0,none⟩)] ++ (J j 9 43)))
abbrev dDoJ_m (A B:List Int) (i p:Nat) (k:Nat) (v:Nat):List Mb:= [((wA .u8 16 A),(22,(0,0))),((wA .u8 16 B),(22,(0,0))),((wA .u8 16 []),(22,(0,0))),((wA .i64 128 (pL p)),(47,(0,0))),((wA .i64 128 (pL v)),(47,(0,0)))]
def dDo0bp_h (i:Nat):Hn:=if i=1 then⟨6,[],[],[],[]⟩ else⟨0,[],[],[],[]⟩
def dDo0bp_b (A B:List Int) (i p:Nat) (k:Nat) (j:Nat→Value):List Value:=(J j 0 4 ++ ([.pointer (some ⟨2,0,none⟩),.pointer (some ⟨3,0,none⟩),.int .i64 ((i:Nat):Int),.int .i64 ((pL p).getD 0 0),.pointer (some ⟨4,0,none⟩)] ++ (J j 9 22 ++ ([.int .i64 ((pL p).getD 0 0),.bool true,.pointer (some ⟨4,127,none⟩),.int .i64 ((pL (p / 2)).getD 127 0),.int .i64 (bits .xor .i64 ((pL (p / 2)).getD 127 0) 1),.pointer (some ⟨4,127,none⟩),.pointer (some ⟨4,126,none⟩),.int .i64 ((pL ((p / 2) ^^^ 2 ^ 127)).getD 126 0),.int .i64 (bits .xor .i64 ((pL ((p / 2) ^^^ 2 ^ 127)).getD 126 0) 1),.pointer (some ⟨4,126,none⟩),.pointer (some ⟨4,125,none⟩),.int .i64 ((pL (((p / 2) ^^^ 2 ^ 127) ^^^ 2 ^ 126)).getD 125 0),.int .i64 (bits .xor .i64 ((pL (((p / 2) ^^^ 2 ^ 127) ^^^ 2 ^ 126)).getD 125 0) 1),.pointer (some ⟨4,125,none⟩),.pointer (some ⟨4,120,none⟩),.int .i64 ((pL ((((p / 2) ^^^ 2 ^ 127) ^^^ 2 ^ 126) ^^^ 2 ^ 125)).getD 120 0),.int .i64 (bits .xor .i64 ((pL ((((p / 2) ^^^ 2 ^ 127) ^^^ 2 ^ 126) ^^^ 2 ^ 125)).getD 120 0) 1),.pointer (some ⟨4,120,none⟩)] ++ (J j 49 3)))))
theorem dDo0bp_0 (A B:List Int) (i p:Nat) (k:Nat) (j:Nat→Value):evC (yty.en tabY1) dDo0bp_h (cAt [1,1,0,1,0,0,1,0,0,1,1,1,0] (bdy Try.f10)) ⟨dDoI_s A B i p k j,dDoI_m A B i p k,True,[some (.bool true),some (.int .i64 ((pL (p / 2)).getD 127 0)),none,some (.agg (wA .i64 128 (pL ((p / 2) ^^^ 2 ^ 127)))),some (.int .i64 ((pL ((p / 2) ^^^ 2 ^ 127)).getD 126 0)),none,some (.agg (wA .i64 128 (pL (((p / 2) ^^^ 2 ^ 127) ^^^ 2 ^ 126)))),some (.int .i64 ((pL (((p / 2) ^^^ 2 ^ 127) ^^^ 2 ^ 126)).getD 125 0)),none,some (.agg (wA .i64 128 (pL ((((p / 2) ^^^ 2 ^ 127) ^^^ 2 ^ 126) ^^^ 2 ^ 125)))),some (.int .i64 ((pL ((((p / 2) ^^^ 2 ^ 127) ^^^ 2 ^ 126) ^^^ 2 ^ 125)).getD 120 0)),none,some (.agg (wA .i64 128 (pL (((((p / 2) ^^^ 2 ^ 127) ^^^ 2 ^ 126) ^^^ 2 ^ 125) ^^^ 2 ^ 120))))]⟩=some (.normal,⟨dDo0bp_b A B i p k j,[((wA .u8 16 A),(22,(0,0))),((wA .u8 16 B),(22,(0,0))),((wA .u8 16 []),(22,(0,0))),((wA .i64 128 (pL p)),(47,(0,0))),((wA .i64 128 (pL (((((p / 2) ^^^ 2 ^ 127) ^^^ 2 ^ 126) ^^^ 2 ^ 125) ^^^ 2 ^ 120))),(47,(0,0)))],((((((((((((((((((((((True∧True)∧(True∧(decide (((pL p).getD 0 0)=1))=true))∧((0:Int)≤127∧(127:Int)<((128:Nat):Int)))∧(((wA .i64 128 (pL (p / 2)))[127]? =some (.int .i64 ((pL (p / 2)).getD 127 0)))∧((pL (p / 2)).getD 127 0)=((pL (p / 2)).getD 127 0)))∧True)∧((0:Int)≤127∧(127:Int)<((128:Nat):Int)))∧(127<(wA .i64 128 (pL (p / 2))).size∧(wA .i64 128 (pL (p / 2))).setIfInBounds (127) (.int .i64 (bits .xor .i64 ((pL (p / 2)).getD 127 0) 1))=(wA .i64 128 (pL ((p / 2) ^^^ 2 ^ 127)))))∧((0:Int)≤126∧(126:Int)<((128:Nat):Int)))∧(((wA .i64 128 (pL ((p / 2) ^^^ 2 ^ 127)))[126]? =some (.int .i64 ((pL ((p / 2) ^^^ 2 ^ 127)).getD 126 0)))∧((pL ((p / 2) ^^^ 2 ^ 127)).getD 126 0)=((pL ((p / 2) ^^^ 2 ^ 127)).getD 126 0)))∧True)∧((0:Int)≤126∧(126:Int)<((128:Nat):Int)))∧(126<(wA .i64 128 (pL ((p / 2) ^^^ 2 ^ 127))).size∧(wA .i64 128 (pL ((p / 2) ^^^ 2 ^ 127))).setIfInBounds (126) (.int .i64 (bits .xor .i64 ((pL ((p / 2) ^^^ 2 ^ 127)).getD 126 0) 1))=(wA .i64 128 (pL (((p / 2) ^^^ 2 ^ 127) ^^^ 2 ^ 126)))))∧((0:Int)≤125∧(125:Int)<((128:Nat):Int)))∧(((wA .i64 128 (pL (((p / 2) ^^^ 2 ^ 127) ^^^ 2 ^ 126)))[125]? =some (.int .i64 ((pL (((p / 2) ^^^ 2 ^ 127) ^^^ 2 ^ 126)).getD 125 0)))∧((pL (((p / 2) ^^^ 2 ^ 127) ^^^ 2 ^ 126)).getD 125 0)=((pL (((p / 2) ^^^ 2 ^ 127) ^^^ 2 ^ 126)).getD 125 0)))∧True)∧((0:Int)≤125∧(125:Int)<((128:Nat):Int)))∧(125<(wA .i64 128 (pL (((p / 2) ^^^ 2 ^ 127) ^^^ 2 ^ 126))).size∧(wA .i64 128 (pL (((p / 2) ^^^ 2 ^ 127) ^^^ 2 ^ 126))).setIfInBounds (125) (.int .i64 (bits .xor .i64 ((pL (((p / 2) ^^^ 2 ^ 127) ^^^ 2 ^ 126)).getD 125 0) 1))=(wA .i64 128 (pL ((((p / 2) ^^^ 2 ^ 127) ^^^ 2 ^ 126) ^^^ 2 ^ 125)))))∧((0:Int)≤120∧(120:Int)<((128:Nat):Int)))∧(((wA .i64 128 (pL ((((p / 2) ^^^ 2 ^ 127) ^^^ 2 ^ 126) ^^^ 2 ^ 125)))[120]? =some (.int .i64 ((pL ((((p / 2) ^^^ 2 ^ 127) ^^^ 2 ^ 126) ^^^ 2 ^ 125)).getD 120 0)))∧((pL ((((p / 2) ^^^ 2 ^ 127) ^^^ 2 ^ 126) ^^^ 2 ^ 125)).getD 120 0)=((pL ((((p / 2) ^^^ 2 ^ 127) ^^^ 2 ^ 126) ^^^ 2 ^ 125)).getD 120 0)))∧True)∧((0:Int)≤120∧(120:Int)<((128:Nat):Int)))∧(120<(wA .i64 128 (pL ((((p / 2) ^^^ 2 ^ 127) ^^^ 2 ^ 126) ^^^ 2 ^ 125))).size∧(wA .i64 128 (pL ((((p / 2) ^^^ 2 ^ 127) ^^^ 2 ^ 126) ^^^ 2 ^ 125))).setIfInBounds (120) (.int .i64 (bits .xor .i64 ((pL ((((p / 2) ^^^ 2 ^ 127) ^^^ 2 ^ 126) ^^^ 2 ^ 125)).getD 120 0) 1))=(wA .i64 128 (pL (((((p / 2) ^^^ 2 ^ 127) ^^^ 2 ^ 126) ^^^ 2 ^ 125) ^^^ 2 ^ 120))))),[]⟩):=by kernel_rfl
theorem dDo0b (A B:List Int) (i p:Nat) (k:Nat) (j:Nat→Value) (hA:By A) (hB:By B) (hp:p=fI i (tmN (nL A) (nL B))) (hl:p<2 ^ 128) (hi:i≤128) (hi1:i<128) (hb0:p.testBit 0=true) {c0:Prop} {ch0:List (Option Value)}:Runs Try.prog (cAt [1,1,0,1,0,0,1,0,0,1,1,1,0] (bdy Try.f10)) ⟨dDoI_s A B i p k j,dDoI_m A B i p k,c0,ch0⟩ (fun e s=>e= .normal∧∃(j:Nat→Value) (c:Prop) (ch:List (Option Value)),((((((p / 2) ^^^ 2 ^ 127) ^^^ 2 ^ 126) ^^^ 2 ^ 125) ^^^ 2 ^ 120)=fD p)∧s=⟨dDoJ_s A B i p k (((((p / 2) ^^^ 2 ^ 127) ^^^ 2 ^ 126) ^^^ 2 ^ 125) ^^^ 2 ^ 120) j,dDoJ_m A B i p k (((((p / 2) ^^^ 2 ^ 127) ^^^ 2 ^ 126) ^^^ 2 ^ 125) ^^^ 2 ^ 120),c,ch⟩) 0:=by
  have h0:(decide (((pL p).getD 0 0)=1))=true:=(decide_eq_true (by rw[pL_at (by decide)];unfold bt;rw[hb0];rfl))
  refine(runs_ev mixed _ (dDo0bp_0 A B i p k j) ⟨⟨⟨⟨⟨⟨⟨⟨⟨⟨⟨⟨⟨⟨⟨⟨⟨⟨⟨⟨⟨⟨trivial,trivial⟩,⟨trivial,h0⟩⟩,⟨by decide,by decide⟩⟩,⟨(wA_get (by omega) (by omega)),rfl⟩⟩,trivial⟩,⟨by decide,by decide⟩⟩,pL_put (by decide) rfl (fun k _=>bt_flip (p / 2) 127 (by rw[pL_at (by decide),xb1]) k)⟩,⟨by decide,by decide⟩⟩,⟨(wA_get (by omega) (by omega)),rfl⟩⟩,trivial⟩,⟨by decide,by decide⟩⟩,pL_put (by decide) rfl (fun k _=>bt_flip ((p / 2) ^^^ 2 ^ 127) 126 (by rw[pL_at (by decide),xb1]) k)⟩,⟨by decide,by decide⟩⟩,⟨(wA_get (by omega) (by omega)),rfl⟩⟩,trivial⟩,⟨by decide,by decide⟩⟩,pL_put (by decide) rfl (fun k _=>bt_flip (((p / 2) ^^^ 2 ^ 127) ^^^ 2 ^ 126) 125 (by rw[pL_at (by decide),xb1]) k)⟩,⟨by decide,by decide⟩⟩,⟨(wA_get (by omega) (by omega)),rfl⟩⟩,trivial⟩,⟨by decide,by decide⟩⟩,pL_put (by decide) rfl (fun k _=>bt_flip ((((p / 2) ^^^ 2 ^ 127) ^^^ 2 ^ 126) ^^^ 2 ^ 125) 120 (by rw[pL_at (by decide),xb1]) k)⟩).mono ?_
  rintro e s ⟨rfl,hs⟩
  refine⟨rfl,fun q=>s.tm.getD q undef,s.c,s.ch,by rw[fD_chain p hl,hb0];rfl,?_⟩
  subst hs
  kernel_rfl
def dDo0cp_h (i:Nat):Hn:=if i=1 then⟨6,[],[],[],[]⟩ else⟨0,[],[],[],[]⟩
def dDo0cp_b (A B:List Int) (i p:Nat) (k:Nat) (j:Nat→Value):List Value:=(J j 0 4 ++ ([.pointer (some ⟨2,0,none⟩),.pointer (some ⟨3,0,none⟩),.int .i64 ((i:Nat):Int),.int .i64 ((pL p).getD 0 0),.pointer (some ⟨4,0,none⟩)] ++ (J j 9 22 ++ ([.int .i64 ((pL p).getD 0 0),.bool false] ++ (J j 33 19)))))
theorem dDo0cp_0 (A B:List Int) (i p:Nat) (k:Nat) (j:Nat→Value):evC (yty.en tabY1) dDo0cp_h (cAt [1,1,0,1,0,0,1,0,0,1,1,1,0] (bdy Try.f10)) ⟨dDoI_s A B i p k j,dDoI_m A B i p k,True,[some (.bool false)]⟩=some (.normal,⟨dDo0cp_b A B i p k j,[((wA .u8 16 A),(22,(0,0))),((wA .u8 16 B),(22,(0,0))),((wA .u8 16 []),(22,(0,0))),((wA .i64 128 (pL p)),(47,(0,0))),((wA .i64 128 (pL (p / 2))),(47,(0,0)))],((True∧True)∧(True∧(decide (((pL p).getD 0 0)=1))=false)),[]⟩):=by kernel_rfl
theorem dDo0c (A B:List Int) (i p:Nat) (k:Nat) (j:Nat→Value) (hA:By A) (hB:By B) (hp:p=fI i (tmN (nL A) (nL B))) (hl:p<2 ^ 128) (hi:i≤128) (hi1:i<128) (hb0:¬ p.testBit 0=true) {c0:Prop} {ch0:List (Option Value)}:Runs Try.prog (cAt [1,1,0,1,0,0,1,0,0,1,1,1,0] (bdy Try.f10)) ⟨dDoI_s A B i p k j,dDoI_m A B i p k,c0,ch0⟩ (fun e s=>e= .normal∧∃(j:Nat→Value) (c:Prop) (ch:List (Option Value)),((p / 2)=fD p)∧s=⟨dDoJ_s A B i p k (p / 2) j,dDoJ_m A B i p k (p / 2),c,ch⟩) 0:=by
  have h0:(decide (((pL p).getD 0 0)=1))=false:=(decide_eq_false (by rw[pL_at (by decide)];unfold bt;rw[fb_of hb0];decide))
  refine(runs_ev mixed _ (dDo0cp_0 A B i p k j) ⟨⟨trivial,trivial⟩,⟨trivial,h0⟩⟩).mono ?_
  rintro e s ⟨rfl,hs⟩
  refine⟨rfl,fun q=>s.tm.getD q undef,s.c,s.ch,by rw[fD_chain p hl,fb_of hb0];rfl,?_⟩
  subst hs
  kernel_rfl
theorem dDo0d (A B:List Int) (i p:Nat) (k:Nat) (j:Nat→Value) (hA:By A) (hB:By B) (hp:p=fI i (tmN (nL A) (nL B))) (hl:p<2 ^ 128) (hi:i≤128) (hi1:i<128)  {c0:Prop} {ch0:List (Option Value)}:Runs Try.prog (cAt [1,1,0,1,0,0,1,0,0,1,1,1,0] (bdy Try.f10)) ⟨dDoI_s A B i p k j,dDoI_m A B i p k,c0,ch0⟩ (fun e s=>e= .normal∧∃(v:Nat) (j:Nat→Value) (c:Prop) (ch:List (Option Value)),(v=fD p)∧s=⟨dDoJ_s A B i p k v j,dDoJ_m A B i p k v,c,ch⟩) 0:=by
  by_cases hb0:p.testBit 0=true
  · refine (dDo0b A B i p k j hA hB hp hl hi hi1 hb0).mono ?_
    rintro e s ⟨rfl,j,c,ch,f6,rfl⟩
    exact⟨rfl,(((((p / 2) ^^^ 2 ^ 127) ^^^ 2 ^ 126) ^^^ 2 ^ 125) ^^^ 2 ^ 120),j,c,ch,f6,rfl⟩
  · refine (dDo0c A B i p k j hA hB hp hl hi hi1 hb0).mono ?_
    rintro e s ⟨rfl,j,c,ch,f6,rfl⟩
    exact⟨rfl,(p / 2),j,c,ch,f6,rfl⟩
abbrev dDoK_s (A B:List Int) (i p:Nat) (k:Nat) (v:Nat) (j:Nat→Value):List Value:=(J j 0 4 ++ ([.pointer (some ⟨2,0,none⟩),.pointer (some ⟨3,0,none⟩),.int .i64 ((i:Nat):Int)] ++ (J j 7 45)))
abbrev dDoK_m (A B:List Int) (i p:Nat) (k:Nat) (v:Nat):List Mb:= [((wA .u8 16 A),(22,(0,0))),((wA .u8 16 B),(22,(0,0))),((wA .u8 16 []),(22,(0,0))),((wA .i64 128 (pL v)),(47,(0,0)))]
def dDo0ep_h (i:Nat):Hn:=if i=1 then⟨6,[],[],[],[]⟩ else⟨0,[],[],[],[]⟩
def dDo0ep_b (A B:List Int) (i p:Nat) (k:Nat) (v:Nat) (j:Nat→Value):List Value:=(J j 0 4 ++ ([.pointer (some ⟨2,0,none⟩),.pointer (some ⟨3,0,none⟩),.int .i64 ((i:Nat):Int),.int .i64 ((pL p).getD 0 0),.pointer (some ⟨4,0,none⟩)] ++ (J j 9 40 ++ ([.agg (wA .i64 128 (pL v)),j 50,j 51]))))
theorem dDo0ep_0 (A B:List Int) (i p:Nat) (k:Nat) (v:Nat) (j:Nat→Value):evC (yty.en tabY1) dDo0ep_h (cAt [1,1,0,1,0,0,1,0,0,1,1,1,1] (bdy Try.f10)) ⟨dDoJ_s A B i p k v j,dDoJ_m A B i p k v,True,[]⟩=some (.normal,⟨dDo0ep_b A B i p k v j,[((wA .u8 16 A),(22,(0,0))),((wA .u8 16 B),(22,(0,0))),((wA .u8 16 []),(22,(0,0))),((wA .i64 128 (pL v)),(47,(0,0))),((wA .i64 128 (pL v)),(47,(0,0)))],((True∧True)∧((wA .i64 128 (pL v)).all (fun v=>v.oneCell')=true)),[]⟩):=by kernel_rfl
theorem dDo0e (A B:List Int) (i p:Nat) (k:Nat) (v:Nat) (j:Nat→Value) (hA:By A) (hB:By B) (hp:p=fI i (tmN (nL A) (nL B))) (hl:p<2 ^ 128) (hi:i≤128) (hi1:i<128) (hv:v=fD p)  {c0:Prop} {ch0:List (Option Value)}:Runs Try.prog (cAt [1,1,0,1,0,0,1,0,0,1,1,1,1] (bdy Try.f10)) ⟨dDoJ_s A B i p k v j,dDoJ_m A B i p k v,c0,ch0⟩ (fun e s=>e= .normal∧∃(j:Nat→Value) (c:Prop) (ch:List (Option Value)),s=⟨dDoK_s A B i p k v j,dDoK_m A B i p k v,c,ch⟩) 0:=by
  refine Runs.dropG (runs_ev mixed _ (dDo0ep_0 A B i p k v j) ⟨⟨trivial,trivial⟩,(wA_one _ _ _)⟩) ?_
  rintro e s ⟨rfl,hs⟩
  refine⟨s.mem.take 4,s.mem.drop 4,(List.take_append_drop 4 _).symm,by subst hs;simp[big],fun M2=>⟨rfl,fun q=>(s.tm.map (dn (s.mem.take 4).length M2)).getD q undef,s.c,s.ch,?_⟩⟩
  subst hs
  kernel_rfl
theorem dDo0f (A B:List Int) (i p:Nat) (k:Nat) (j:Nat→Value) (hA:By A) (hB:By B) (hp:p=fI i (tmN (nL A) (nL B))) (hl:p<2 ^ 128) (hi:i≤128) (hi1:i<128)  {c0:Prop} {ch0:List (Option Value)}:Runs Try.prog (cAt [1,1,0,1,0,0,1,0,0,1,1,1] (bdy Try.f10)) ⟨dDoI_s A B i p k j,dDoI_m A B i p k,c0,ch0⟩ (fun e s=>e= .normal∧∃(v0:Nat) (j:Nat→Value) (c:Prop) (ch:List (Option Value)),(v0=fD p)∧s=⟨dDoK_s A B i p k v0 j,dDoK_m A B i p k v0,c,ch⟩) 0:=by
  rw[show(cAt [1,1,0,1,0,0,1,0,0,1,1,1] (bdy Try.f10))=(.seq (cAt [1,1,0,1,0,0,1,0,0,1,1,1,0] (bdy Try.f10)) (cAt [1,1,0,1,0,0,1,0,0,1,1,1,1] (bdy Try.f10))) from by kernel_rfl]
  refine runs_seq (dDo0d A B i p k j hA hB hp hl hi hi1 ) (fun s hh=> ?_) (fun e s hne hh=>absurd hh.1 hne)
  obtain⟨_,v0,j,c,ch,f0_6,rfl⟩:=hh
  refine(dDo0e A B i p k v0 j hA hB hp hl hi hi1 f0_6 ).mono ?_
  rintro e s ⟨rfl,j,c,ch,rfl⟩
  exact⟨rfl,v0,j,c,ch,f0_6,rfl⟩
theorem dDo0g (A B:List Int) (i p:Nat) (j:Nat→Value) (hA:By A) (hB:By B) (hp:p=fI i (tmN (nL A) (nL B))) (hl:p<2 ^ 128) (hi:i≤128) (hi1:i<128)  {c0:Prop} {ch0:List (Option Value)}:Runs Try.prog (cAt [1,1,0,1,0,0,1,0,0,1,1] (bdy Try.f10)) ⟨dDoG_s A B i p j,dDoG_m A B i p,c0,ch0⟩ (fun e s=>e= .normal∧∃(k10:Nat) (v01:Nat) (j:Nat→Value) (c:Prop) (ch:List (Option Value)),(v01=fD p)∧s=⟨dDoK_s A B i p k10 v01 j,dDoK_m A B i p k10 v01,c,ch⟩) 0:=by
  rw[show(cAt [1,1,0,1,0,0,1,0,0,1,1] (bdy Try.f10))=(.seq (cAt [1,1,0,1,0,0,1,0,0,1,1,0] (bdy Try.f10)) (cAt [1,1,0,1,0,0,1,0,0,1,1,1] (bdy Try.f10))) from by kernel_rfl]
  refine runs_seq (dDo0a A B i p j hA hB hp hl hi hi1 ) (fun s hh=> ?_) (fun e s hne hh=>absurd hh.1 hne)
  obtain⟨_,k10,j,c,ch,rfl⟩:=hh
  refine(dDo0f A B i p k10 j hA hB hp hl hi hi1 ).mono ?_
  rintro e s ⟨rfl,v01,j,c,ch,f1_6,rfl⟩
  exact⟨rfl,k10,v01,j,c,ch,f1_6,rfl⟩
theorem dDo0i (A B:List Int) (i p:Nat) (j:Nat→Value) (hA:By A) (hB:By B) (hp:p=fI i (tmN (nL A) (nL B))) (hl:p<2 ^ 128) (hi:i≤128) (hi1:i<128)  {c0:Prop} {ch0:List (Option Value)}:Runs Try.prog (cAt [1,1,0,1,0,0,1,0,0,1] (bdy Try.f10)) ⟨dDoF_s A B i p j,dDoF_m A B i p,c0,ch0⟩ (fun e s=>e= .normal∧∃(k101:Nat) (v011:Nat) (j:Nat→Value) (c:Prop) (ch:List (Option Value)),(v011=fD p)∧s=⟨dDoK_s A B i p k101 v011 j,dDoK_m A B i p k101 v011,c,ch⟩) 0:=by
  rw[show(cAt [1,1,0,1,0,0,1,0,0,1] (bdy Try.f10))=(.seq (cAt [1,1,0,1,0,0,1,0,0,1,0] (bdy Try.f10)) (cAt [1,1,0,1,0,0,1,0,0,1,1] (bdy Try.f10))) from by kernel_rfl]
  refine runs_seq (dDo5 A B i p j hA hB hp hl hi hi1 ) (fun s hh=> ?_) (fun e s hne hh=>absurd hh.1 hne)
  obtain⟨_,j,c,ch,rfl⟩:=hh
  refine(dDo0g A B i p j hA hB hp hl hi hi1 ).mono ?_
  rintro e s ⟨rfl,k101,v011,j,c,ch,f1_6,rfl⟩
  exact⟨rfl,k101,v011,j,c,ch,f1_6,rfl⟩
theorem dDo0h (A B:List Int) (i p:Nat) (j:Nat→Value) (hA:By A) (hB:By B) (hp:p=fI i (tmN (nL A) (nL B))) (hl:p<2 ^ 128) (hi:i≤128) (hi1:i<128)  {c0:Prop} {ch0:List (Option Value)}:Runs Try.prog (cAt [1,1,0,1,0,0,1,0,0] (bdy Try.f10)) ⟨dDoE_s A B i p j,dDoE_m A B i p,c0,ch0⟩ (fun e s=>e= .normal∧∃(k1011:Nat) (v0111:Nat) (j:Nat→Value) (c:Prop) (ch:List (Option Value)),(v0111=fD p)∧s=⟨dDoK_s A B i p k1011 v0111 j,dDoK_m A B i p k1011 v0111,c,ch⟩) 0:=by
  rw[show(cAt [1,1,0,1,0,0,1,0,0] (bdy Try.f10))=(.seq (cAt [1,1,0,1,0,0,1,0,0,0] (bdy Try.f10)) (cAt [1,1,0,1,0,0,1,0,0,1] (bdy Try.f10))) from by kernel_rfl]
  refine runs_seq (dDo4 A B i p j hA hB hp hl hi hi1 ) (fun s hh=> ?_) (fun e s hne hh=>absurd hh.1 hne)
  obtain⟨_,j,c,ch,rfl⟩:=hh
  refine(dDo0i A B i p j hA hB hp hl hi hi1 ).mono ?_
  rintro e s ⟨rfl,k1011,v0111,j,c,ch,f1_6,rfl⟩
  exact⟨rfl,k1011,v0111,j,c,ch,f1_6,rfl⟩
theorem dDo0j (A B:List Int) (i p:Nat) (j:Nat→Value) (hA:By A) (hB:By B) (hp:p=fI i (tmN (nL A) (nL B))) (hl:p<2 ^ 128) (hi:i≤128) (hi1:i<128)  {c0:Prop} {ch0:List (Option Value)}:Runs Try.prog (cAt [1,1,0,1,0,0,1,0] (bdy Try.f10)) ⟨dDoE_s A B i p j,dDoE_m A B i p,c0,ch0⟩ (fun e s=>e= .normal∧∃(k1011:Nat) (v0111:Nat) (j:Nat→Value) (c:Prop) (ch:List (Option Value)),(v0111=fD p)∧s=⟨dDoK_s A B i p k1011 v0111 j,dDoK_m A B i p k1011 v0111,c,ch⟩) 0:=by
  rw[show(cAt [1,1,0,1,0,0,1,0] (bdy Try.f10))= .block 1 (cAt [1,1,0,1,0,0,1,0,0] (bdy Try.f10)) from by kernel_rfl]
  refine runs_block (dDo0h A B i p j hA hB hp hl hi hi1 ) ?_
  rintro e s ⟨rfl,hh⟩
  exact .inr (.inl ⟨rfl,rfl,hh⟩)
def dDo0kp_h (i:Nat):Hn:=if i=1 then⟨6,[],[],[],[]⟩ else⟨0,[],[],[],[]⟩
def dDo0kp_b (A B:List Int) (i p:Nat) (k:Nat) (v:Nat) (j:Nat→Value):List Value:=(J j 0 4 ++ ([.pointer (some ⟨2,0,none⟩),.pointer (some ⟨3,0,none⟩),.int .i64 ((i+1:Nat):Int)] ++ (J j 7 10 ++ ([.int .i64 ((i:Nat):Int),.int .i64 ((i+1:Nat):Int)] ++ (J j 19 33)))))
theorem dDo0kp_0 (A B:List Int) (i p:Nat) (k:Nat) (v:Nat) (j:Nat→Value):evC (yty.en tabY1) dDo0kp_h (cAt [1,1,0,1,0,0,1,1] (bdy Try.f10)) ⟨dDoK_s A B i p k v j,dDoK_m A B i p k v,True,[some (.int .i64 ((i+1:Nat):Int))]⟩=some (.normal,⟨dDo0kp_b A B i p k v j,[((wA .u8 16 A),(22,(0,0))),((wA .u8 16 B),(22,(0,0))),((wA .u8 16 []),(22,(0,0))),((wA .i64 128 (pL v)),(47,(0,0)))],(((True∧True)∧(True∧(IntKind.i64.wrap (((i:Nat):Int)+1))=((i+1:Nat):Int)))∧True),[]⟩):=by kernel_rfl
theorem dDo0k (A B:List Int) (i p:Nat) (k:Nat) (v:Nat) (j:Nat→Value) (hA:By A) (hB:By B) (hp:p=fI i (tmN (nL A) (nL B))) (hl:p<2 ^ 128) (hi:i≤128) (hi1:i<128) (hv:v=fD p)  {c0:Prop} {ch0:List (Option Value)}:Runs Try.prog (cAt [1,1,0,1,0,0,1,1] (bdy Try.f10)) ⟨dDoK_s A B i p k v j,dDoK_m A B i p k v,c0,ch0⟩ (fun e s=>e= .normal∧∃(j:Nat→Value) (c:Prop) (ch:List (Option Value)),(v=fI (i+1) (tmN (nL A) (nL B)))∧(v<2 ^ 128)∧((i+1)≤128)∧s=⟨dDoD_s A B (i+1) v j,dDoD_m A B (i+1) v,c,ch⟩) 0:=by
  refine(runs_ev mixed _ (dDo0kp_0 A B i p k v j) ⟨⟨⟨trivial,trivial⟩,⟨trivial,(by rw[IntKind.wrap_i64];omega)⟩⟩,trivial⟩).mono ?_
  rintro e s ⟨rfl,hs⟩
  refine⟨rfl,fun q=>s.tm.getD q undef,s.c,s.ch,by rw[hv,hp];rfl,by rw[hv];exact fD_lt hl,by omega,?_⟩
  subst hs
  kernel_rfl
theorem dDo0l (A B:List Int) (i p:Nat) (j:Nat→Value) (hA:By A) (hB:By B) (hp:p=fI i (tmN (nL A) (nL B))) (hl:p<2 ^ 128) (hi:i≤128) (hi1:i<128)  {c0:Prop} {ch0:List (Option Value)}:Runs Try.prog (cAt [1,1,0,1,0,0,1] (bdy Try.f10)) ⟨dDoE_s A B i p j,dDoE_m A B i p,c0,ch0⟩ (fun e s=>e= .normal∧∃(k10110:Nat) (v01110:Nat) (j:Nat→Value) (c:Prop) (ch:List (Option Value)),(v01110=fI (i+1) (tmN (nL A) (nL B)))∧(v01110<2 ^ 128)∧((i+1)≤128)∧s=⟨dDoD_s A B (i+1) v01110 j,dDoD_m A B (i+1) v01110,c,ch⟩) 0:=by
  rw[show(cAt [1,1,0,1,0,0,1] (bdy Try.f10))=(.seq (cAt [1,1,0,1,0,0,1,0] (bdy Try.f10)) (cAt [1,1,0,1,0,0,1,1] (bdy Try.f10))) from by kernel_rfl]
  refine runs_seq (dDo0j A B i p j hA hB hp hl hi hi1 ) (fun s hh=> ?_) (fun e s hne hh=>absurd hh.1 hne)
  obtain⟨_,k10110,v01110,j,c,ch,f0_6,rfl⟩:=hh
  refine(dDo0k A B i p k10110 v01110 j hA hB hp hl hi hi1 f0_6 ).mono ?_
  rintro e s ⟨rfl,j,c,ch,f1_2,f1_3,f1_4,rfl⟩
  exact⟨rfl,k10110,v01110,j,c,ch,f1_2,f1_3,f1_4,rfl⟩
theorem dDo0m (A B:List Int) (i p:Nat) (j:Nat→Value) (hA:By A) (hB:By B) (hp:p=fI i (tmN (nL A) (nL B))) (hl:p<2 ^ 128) (hi:i≤128) (hlt:i<128) {c0:Prop} {ch0:List (Option Value)}:Runs Try.prog (cAt [1,1,0,1,0,0] (bdy Try.f10)) ⟨dDoD_s A B i p j,dDoD_m A B i p,c0,ch0⟩ (fun e s=>e= .normal∧∃(k101101:Nat) (v011101:Nat) (j:Nat→Value) (c:Prop) (ch:List (Option Value)),(v011101=fI (i+1) (tmN (nL A) (nL B)))∧(v011101<2 ^ 128)∧((i+1)≤128)∧s=⟨dDoD_s A B (i+1) v011101 j,dDoD_m A B (i+1) v011101,c,ch⟩) 0:=by
  rw[show(cAt [1,1,0,1,0,0] (bdy Try.f10))=(.seq (cAt [1,1,0,1,0,0,0] (bdy Try.f10)) (cAt [1,1,0,1,0,0,1] (bdy Try.f10))) from by kernel_rfl]
  refine runs_seq (dDo3 A B i p j hA hB hp hl hi hlt) (fun s hh=> ?_) (fun e s hne hh=>absurd hh.1 hne)
  obtain⟨_,j,c,ch,f0_5,rfl⟩:=hh
  refine(dDo0l A B i p j hA hB hp hl hi f0_5 ).mono ?_
  rintro e s ⟨rfl,k101101,v011101,j,c,ch,f1_2,f1_3,f1_4,rfl⟩
  exact⟨rfl,k101101,v011101,j,c,ch,f1_2,f1_3,f1_4,rfl⟩
abbrev dDoL_s (A B:List Int) (i p:Nat) (j:Nat→Value):List Value:=(J j 0 4 ++ ([.pointer (some ⟨2,0,none⟩),.pointer (some ⟨3,0,none⟩)] ++ (J j 6 46)))
abbrev dDoL_m (A B:List Int) (i p:Nat):List Mb:= [((wA .u8 16 A),(22,(0,0))),((wA .u8 16 B),(22,(0,0))),((wA .u8 16 []),(22,(0,0))),((wA .i64 128 (pL p)),(47,(0,0)))]
def dDo0np_h (i:Nat):Hn:=if i=1 then⟨6,[],[],[],[]⟩ else⟨0,[],[],[],[]⟩
def dDo0np_b (A B:List Int) (i p:Nat) (j:Nat→Value):List Value:=(J j 0 4 ++ ([.pointer (some ⟨2,0,none⟩),.pointer (some ⟨3,0,none⟩),.int .i64 ((i:Nat):Int)] ++ (J j 7 8 ++ ([.int .i64 ((i:Nat):Int),.bool false] ++ (J j 17 35)))))
theorem dDo0np_0 (A B:List Int) (i p:Nat) (j:Nat→Value):evC (yty.en tabY1) dDo0np_h (cAt [1,1,0,1,0,0] (bdy Try.f10)) ⟨dDoD_s A B i p j,dDoD_m A B i p,True,[some (.bool false)]⟩=some ((.exit 0),⟨dDo0np_b A B i p j,[((wA .u8 16 A),(22,(0,0))),((wA .u8 16 B),(22,(0,0))),((wA .u8 16 []),(22,(0,0))),((wA .i64 128 (pL p)),(47,(0,0)))],((True∧True)∧(True∧(decide (((i:Nat):Int)<128))=false)),[]⟩):=by kernel_rfl
theorem dDo0n (A B:List Int) (i p:Nat) (j:Nat→Value) (hA:By A) (hB:By B) (hp:p=fI i (tmN (nL A) (nL B))) (hl:p<2 ^ 128) (hi:i≤128) (hge:¬ i<128) {c0:Prop} {ch0:List (Option Value)}:Runs Try.prog (cAt [1,1,0,1,0,0] (bdy Try.f10)) ⟨dDoD_s A B i p j,dDoD_m A B i p,c0,ch0⟩ (fun e s=>e=(.exit 0)∧∃(j:Nat→Value) (c:Prop) (ch:List (Option Value)),(p=fI 128 (tmN (nL A) (nL B)))∧s=⟨dDoL_s A B i p j,dDoL_m A B i p,c,ch⟩) 0:=by
  have h0:(decide (((i:Nat):Int)<128))=false:=(decide_eq_false (by omega))
  refine(runs_ev mixed _ (dDo0np_0 A B i p j) ⟨⟨trivial,trivial⟩,⟨trivial,h0⟩⟩).mono ?_
  rintro e s ⟨rfl,hs⟩
  refine⟨rfl,fun q=>s.tm.getD q undef,s.c,s.ch,by rw[hp,show i=128 by omega],?_⟩
  subst hs
  kernel_rfl
theorem dDo0oL (A:List Int) (B:List Int) (p:Nat) (j:Nat→Value) (hA:By A) (hB:By B) (ihp:p=fI 0 (tmN (nL A) (nL B))) (ihl:p<2 ^ 128) (ihi:0≤128)  {c0:Prop} {ch0:List (Option Value)}:Runs Try.prog (.loop (cAt [1,1,0,1,0,0] (bdy Try.f10))) ⟨dDoD_s A B 0 p j,dDoD_m A B 0 p,c0,ch0⟩ (fun e s=>e= .exit 0∧∃(i:Nat) (p:Nat) (j:Nat→Value) (c:Prop) (ch:List (Option Value)),(p=fI 128 (tmN (nL A) (nL B)))∧(p<2 ^ 128)∧s=⟨dDoL_s A B i p j,dDoL_m A B i p,c,ch⟩) 0:=by
  refine runs_loop (fun M s=>∃(i:Nat) (p:Nat) (j:Nat→Value) (c:Prop) (ch:List (Option Value)),(p=fI i (tmN (nL A) (nL B)))∧(p<2 ^ 128)∧(i≤128)∧M=128 - i∧s=⟨dDoD_s A B i p j,dDoD_m A B i p,c,ch⟩) (128 - 0) ⟨0,p,j,c0,ch0,ihp,ihl,ihi,rfl,rfl⟩ ?_
  rintro M s ⟨i,p,j,c,ch,hp,hl,hi,rfl,rfl⟩
  by_cases hlt:i<128
  · skip
    refine(dDo0m A B i p j hA hB hp hl hi hlt).mono ?_
    rintro e s ⟨rfl,k101101_,v011101_,j,c,ch,f2,f3,f4,rfl⟩
    exact .inl ⟨rfl,128 - (i+1),by omega,⟨(i+1),v011101_,j,c,ch,f2,f3,f4,rfl,rfl⟩⟩
  · refine (dDo0n A B i p j hA hB hp hl hi hlt).mono ?_
    intro e s hh
    obtain⟨rfl,j,c,ch,f2,rfl⟩:=hh
    exact .inr ⟨by simp,rfl,i,p,j,c,ch,f2,hl,rfl⟩
theorem dDo0o (A:List Int) (B:List Int) (p:Nat) (j:Nat→Value) (hA:By A) (hB:By B) (ihp:p=fI 0 (tmN (nL A) (nL B))) (ihl:p<2 ^ 128) (ihi:0≤128)  {c0:Prop} {ch0:List (Option Value)}:Runs Try.prog (cAt [1,1,0,1] (bdy Try.f10)) ⟨dDoD_s A B 0 p j,dDoD_m A B 0 p,c0,ch0⟩ (fun e s=>e= .normal∧∃(i:Nat) (p:Nat) (j:Nat→Value) (c:Prop) (ch:List (Option Value)),(p=fI 128 (tmN (nL A) (nL B)))∧(p<2 ^ 128)∧s=⟨dDoL_s A B i p j,dDoL_m A B i p,c,ch⟩) 0:=by
  rw[show(cAt [1,1,0,1] (bdy Try.f10))= .block 0 (.loop (cAt [1,1,0,1,0,0] (bdy Try.f10))) from by kernel_rfl]
  refine runs_block (dDo0oL A B p j hA hB ihp ihl ihi ) ?_
  rintro e s ⟨rfl,hh⟩
  exact .inl ⟨rfl,rfl,hh⟩
theorem dDo0p (A B:List Int) (p:Nat) (j:Nat→Value) (hA:By A) (hB:By B) (hp:p=(tmN (nL A) (nL B))) (hl:p<2 ^ 128)  {c0:Prop} {ch0:List (Option Value)}:Runs Try.prog (cAt [1,1,0] (bdy Try.f10)) ⟨dDoC_s A B p j,dDoC_m A B p,c0,ch0⟩ (fun e s=>e= .normal∧∃(i1:Nat) (p1:Nat) (j:Nat→Value) (c:Prop) (ch:List (Option Value)),(p1=fI 128 (tmN (nL A) (nL B)))∧(p1<2 ^ 128)∧s=⟨dDoL_s A B i1 p1 j,dDoL_m A B i1 p1,c,ch⟩) 0:=by
  rw[show(cAt [1,1,0] (bdy Try.f10))=(.seq (cAt [1,1,0,0] (bdy Try.f10)) (cAt [1,1,0,1] (bdy Try.f10))) from by kernel_rfl]
  refine runs_seq (dDo2 A B p j hA hB hp hl ) (fun s hh=> ?_) (fun e s hne hh=>absurd hh.1 hne)
  obtain⟨_,j,c,ch,f0_2,f0_4,rfl⟩:=hh
  refine(dDo0o A B p j hA hB f0_2 hl f0_4 ).mono ?_
  rintro e s ⟨rfl,i1,p1,j,c,ch,f1_2,f1_3,rfl⟩
  exact⟨rfl,i1,p1,j,c,ch,f1_2,f1_3,rfl⟩
abbrev dDoM_s (A B:List Int) (i p:Nat) (E:List Int) (j:Nat→Value):List Value:=(J j 0 4 ++ ([.pointer (some ⟨2,0,none⟩)] ++ (J j 5 47)))
abbrev dDoM_m (A B:List Int) (i p:Nat) (E:List Int):List Mb:= [((wA .u8 16 A),(22,(0,0))),((wA .u8 16 B),(22,(0,0))),((wA .u8 16 E),(22,(0,0))),((wA .i64 128 (pL p)),(47,(0,0)))]
def dDo0qp_h (i:Nat):Hn:=if i=1 then⟨6,[],[],[],[]⟩ else⟨0,[],[],[],[]⟩
def dDo0qp_b (A B:List Int) (i p:Nat) (j:Nat→Value):List Value:=(J j 0 4 ++ ([.pointer (some ⟨2,0,none⟩),.pointer (some ⟨3,0,none⟩)] ++ (J j 6 44 ++ ([.agg (wA .i64 128 (pL p)),.agg (wA .u8 16 (eL (dP (wA .i64 128 (pL p)))))]))))
theorem dDo0qp_0 (A B:List Int) (i p:Nat) (j:Nat→Value):evC (yty.en tabY1) dDo0qp_h (cAt [1,1,1] (bdy Try.f10)) ⟨dDoL_s A B i p j,dDoL_m A B i p,True,[]⟩=some (.ret,⟨dDo0qp_b A B i p j,[((wA .u8 16 A),(22,(0,0))),((wA .u8 16 B),(22,(0,0))),((wA .u8 16 (eL (dP (wA .i64 128 (pL p))))),(22,(0,0))),((wA .i64 128 (pL p)),(47,(0,0)))],(((True∧True)∧((wA .i64 128 (pL p))=wA .i64 128 (pL (dP (wA .i64 128 (pL p))))∧dP (wA .i64 128 (pL p))<2 ^ 128))∧((wA .u8 16 (eL (dP (wA .i64 128 (pL p))))).all (fun v=>v.oneCell')=true)),[]⟩):=by kernel_rfl
theorem dDo0q (A B:List Int) (i p:Nat) (j:Nat→Value) (hA:By A) (hB:By B) (hp:p=fI 128 (tmN (nL A) (nL B))) (hl:p<2 ^ 128)  {c0:Prop} {ch0:List (Option Value)}:Runs Try.prog (cAt [1,1,1] (bdy Try.f10)) ⟨dDoL_s A B i p j,dDoL_m A B i p,c0,ch0⟩ (fun e s=>e= .ret∧∃(j:Nat→Value) (c:Prop) (ch:List (Option Value)),((eL (dP (wA .i64 128 (pL p))))=dotL A B)∧s=⟨dDoM_s A B i p (eL (dP (wA .i64 128 (pL p)))) j,dDoM_m A B i p (eL (dP (wA .i64 128 (pL p)))),c,ch⟩) 0:=by
  refine(runs_ev mixed _ (dDo0qp_0 A B i p j) ⟨⟨⟨trivial,trivial⟩,pq hl⟩,(wA_one _ _ _)⟩).mono ?_
  rintro e s ⟨rfl,hs⟩
  refine⟨rfl,fun q=>s.tm.getD q undef,s.c,s.ch,by rw[dP_pL hl,dotL_eq hA hB,hp,tm_dot (nL_lt hA) (nL_lt hB)],?_⟩
  subst hs
  kernel_rfl
theorem dDou (A B:List Int) (j:Nat→Value) (hA:By A) (hB:By B)  {c0:Prop} {ch0:List (Option Value)}:Runs Try.prog (cAt [] (bdy Try.f10)) ⟨dDoA_s A B j,dDoA_m A B,c0,ch0⟩ (fun e s=>e= .ret∧∃(i12:Nat) (p12:Nat) (j:Nat→Value) (c:Prop) (ch:List (Option Value)),((eL (dP (wA .i64 128 (pL p12))))=dotL A B)∧s=⟨dDoM_s A B i12 p12 (eL (dP (wA .i64 128 (pL p12)))) j,dDoM_m A B i12 p12 (eL (dP (wA .i64 128 (pL p12)))),c,ch⟩) 0:=by
  rw[show(cAt [] (bdy Try.f10))=(.seq (cAt [0] (bdy Try.f10)) (.seq (cAt [1,0] (bdy Try.f10)) (.seq (cAt [1,1,0] (bdy Try.f10)) (cAt [1,1,1] (bdy Try.f10))))) from by kernel_rfl]
  refine runs_seq (dDo0 A B j hA hB ) (fun s hh=> ?_) (fun e s hne hh=>absurd hh.1 hne)
  obtain⟨_,j,c,ch,rfl⟩:=hh
  refine runs_seq (dDo1 A B j hA hB ) (fun s hh=> ?_) (fun e s hne hh=>absurd hh.1 hne)
  obtain⟨_,j,c,ch,f1_2,f1_3,rfl⟩:=hh
  refine runs_seq (dDo0p A B (tmN (dP (wA .i64 128 (pL (nL (dL8 (wA .u8 16 A)))))) (dP (wA .i64 128 (pL (nL (dL8 (wA .u8 16 B))))))) j hA hB f1_2 f1_3 ) (fun s hh=> ?_) (fun e s hne hh=>absurd hh.1 hne)
  obtain⟨_,i12,p12,j,c,ch,f2_2,f2_3,rfl⟩:=hh
  refine(dDo0q A B i12 p12 j hA hB f2_2 f2_3 ).mono ?_
  rintro e s ⟨rfl,j,c,ch,f3_0,rfl⟩
  exact⟨rfl,i12,p12,j,c,ch,f3_0,rfl⟩
theorem dDo_c (A B:List Int) (hA:By A) (hB:By B):Pure Try.prog 10 #[.agg (wA .u8 16 A),.agg (wA .u8 16 B)] (.agg (wA .u8 16 (dotL A B))):=by
  refine pure_runs (E:=(yty.en tabY1)) Try.func10 (c:=bdy Try.f10) (by kernel_rfl) (args:= [.agg (wA .u8 16 A),.agg (wA .u8 16 B)]) (by kernel_rfl) (K:=fun e s=>e= .ret∧resS (yty.en tabY1) s Try.f10.results.toList=some [.agg (wA .u8 16 (dotL A B))]) ?_ (fun e s h=>⟨h.1,_,h.2,rfl⟩)
  refine(dDou A B (fun _=>undef) hA hB).mono ?_
  rintro e s ⟨rfl,i,p,j,c,ch,hE,rfl⟩
  rw[← hE]
  exact⟨rfl,by kernel_rfl⟩
def pdd:Entry Try.prog:=entLL Try.func10 (by kernel_rfl) (by kernel_rfl) 16 16 (fun A B=> .agg (wA .u8 16 (dotL A B))) (fun A B h1 h2=>dDo_c A B h1 h2)
end Go.Proofs.Ytnadkbniljejfaa

set_option linter.unusedSimpArgs false
set_option linter.unusedVariables false
/-! siv: dot is the document's. -/
namespace Go.Proofs.Ytnadkbniljejfaa
open Go.RowKit Go.Ev
def tabY2:List (Entry Try.prog):=pdd :: pdo :: pk9 :: []
def sLd_h (i:Nat):Hn:=if i=1 then⟨11,[],[],[],[]⟩ else⟨0,[],[],[],[]⟩
def sLd_a (A B:List Int):List Value:=([.agg (wA .u8 16 A),.agg (wA .u8 16 B)] ++ (JU 13))
def sLd_b (A B:List Int):List Value:=([.agg (wA .u8 16 A),.agg (wA .u8 16 B),.pointer (some ⟨0,0,none⟩),.pointer (some ⟨1,0,none⟩),.bool true,.agg (wA .u8 16 A),.agg (wA .u8 16 B),.agg (wA .u8 16 (dotL (dL8 (wA .u8 16 A)) (dL8 (wA .u8 16 B)))),.agg (wA .u8 16 A),.agg (wA .u8 16 B),.agg (wA .u8 16 (dotL (dL8 (wA .u8 16 A)) (dL8 (wA .u8 16 B)))),.bool true,.bool true,.bool true,.bool true])
theorem sLd_0 (A B:List Int):evC (yty.en tabY2) sLd_h (cAt [] (bdy Try.f3)) ⟨sLd_a A B,[],True,[some (.bool true)]⟩=some (.ret,⟨sLd_b A B,[((wA .u8 16 A),(22,(0,0))),((wA .u8 16 B),(22,(0,0)))],((((((((((((True∧True)∧True)∧True)∧(((wA .u8 16 A)=wA .u8 16 (dL8 (wA .u8 16 A))∧By (dL8 (wA .u8 16 A)))∧((wA .u8 16 B)=wA .u8 16 (dL8 (wA .u8 16 B))∧By (dL8 (wA .u8 16 B)))))∧True)∧True)∧(((wA .u8 16 A)=wA .u8 16 (dL8 (wA .u8 16 A))∧By (dL8 (wA .u8 16 A)))∧((wA .u8 16 B)=wA .u8 16 (dL8 (wA .u8 16 B))∧By (dL8 (wA .u8 16 B)))))∧((isBL 16 (wA .u8 16 (dotL (dL8 (wA .u8 16 A)) (dL8 (wA .u8 16 B))))∧isBL 16 (wA .u8 16 (dotL (dL8 (wA .u8 16 A)) (dL8 (wA .u8 16 B)))))∧(intsOf (wA .u8 16 (dotL (dL8 (wA .u8 16 A)) (dL8 (wA .u8 16 B)))) == intsOf (wA .u8 16 (dotL (dL8 (wA .u8 16 A)) (dL8 (wA .u8 16 B)))))=true))∧True)∧True)∧True)∧True),[]⟩):=by kernel_rfl
theorem sLd_c (A B:List Int) (hA:By A) (hB:By B):Pure Try.prog 3 #[.agg (wA .u8 16 A),.agg (wA .u8 16 B)] (.bool true):=by
  have h0:(intsOf (wA .u8 16 (dotL (dL8 (wA .u8 16 A)) (dL8 (wA .u8 16 B)))) == intsOf (wA .u8 16 (dotL (dL8 (wA .u8 16 A)) (dL8 (wA .u8 16 B)))))=true:=(beq_self_eq_true _)
  refine pure_runs (E:=(yty.en tabY2)) Try.func3 (c:=bdy Try.f3) (by kernel_rfl) (args:= [.agg (wA .u8 16 A),.agg (wA .u8 16 B)]) (by kernel_rfl) (K:=fun e s=>e= .ret∧resS (yty.en tabY2) s Try.f3.results.toList=some [.bool true]) ?_ (fun e s h=>⟨h.1,_,h.2,rfl⟩)
  refine(runs_ev mixed _ (sLd_0 A B) ⟨⟨⟨⟨⟨⟨⟨⟨⟨⟨⟨⟨trivial,trivial⟩,trivial⟩,trivial⟩,⟨dq hA,dq hB⟩⟩,trivial⟩,trivial⟩,⟨dq hA,dq hB⟩⟩,⟨⟨isBL_w _ _,isBL_w _ _⟩,h0⟩⟩,trivial⟩,trivial⟩,trivial⟩,trivial⟩).mono ?_
  rintro e s ⟨rfl,rfl⟩
  exact⟨rfl,by kernel_rfl⟩
end Go.Proofs.Ytnadkbniljejfaa
