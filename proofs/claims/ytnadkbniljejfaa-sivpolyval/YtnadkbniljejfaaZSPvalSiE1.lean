import Derived.Test.YtnadkbniljejfaaZSPvalSiC1
import Derived.Test.YtnadkbniljejfaaZSPvalEvW1
import Derived.Test.YtnadkbniljejfaaZSPvalSiM1
set_option linter.unusedSimpArgs false
set_option linter.unusedVariables false
/-! siv: nothing sealed. -/
namespace Go.Proofs.Ytnadkbniljejfaa
open Go.RowKit Go.Ev
abbrev sStA_s (K Z:List Int) (j:Nat→Value):List Value:=([.agg (wA .u8 32 K),.agg (wA .u8 16 Z)] ++ (JU 10))
abbrev sStA_m (K Z:List Int):List Mb:= []
abbrev sStB_s (K Z:List Int) (j:Nat→Value):List Value:=([j 0,j 1,.pointer (some ⟨0,0,none⟩),.pointer (some ⟨1,0,none⟩)] ++ (J j 4 8))
abbrev sStB_m (K Z:List Int):List Mb:= [((wA .u8 32 K),(27,(0,0))),((wA .u8 16 Z),(22,(0,0)))]
def sSt0p_h (i:Nat):Hn:=⟨0,[],[],[],[]⟩
def sSt0p_b (K Z:List Int) (j:Nat→Value):List Value:=([.agg (wA .u8 32 K),.agg (wA .u8 16 Z),.pointer (some ⟨0,0,none⟩),.pointer (some ⟨1,0,none⟩),Value.nilFunc] ++ (JU 7))
theorem sSt0p_0 (K Z:List Int) (j:Nat→Value):evC (yty.en tabV0) sSt0p_h (cAt [0] (bdy Try.f37)) ⟨sStA_s K Z j,sStA_m K Z,True,[]⟩=some (.normal,⟨sSt0p_b K Z j,[((wA .u8 32 K),(27,(0,0))),((wA .u8 16 Z),(22,(0,0)))],(True∧True),[]⟩):=by kernel_rfl
theorem sSt0 (K Z:List Int) (j:Nat→Value)   {c0:Prop} {ch0:List (Option Value)}:Runs Try.prog (cAt [0] (bdy Try.f37)) ⟨sStA_s K Z j,sStA_m K Z,c0,ch0⟩ (fun e s=>e= .normal∧∃(j:Nat→Value) (c:Prop) (ch:List (Option Value)),s=⟨sStB_s K Z j,sStB_m K Z,c,ch⟩) 0:=by
  refine(runs_ev mixed _ (sSt0p_0 K Z j) ⟨trivial,trivial⟩).mono ?_
  rintro e s ⟨rfl,hs⟩
  refine⟨rfl,fun q=>s.tm.getD q undef,s.c,s.ch,?_⟩
  subst hs
  kernel_rfl
abbrev sStC_s (K Z:List Int) (j:Nat→Value):List Value:=([j 0,j 1,.pointer (some ⟨0,0,none⟩),.pointer (some ⟨1,0,none⟩),j 4,.pointer (some ⟨2,0,none⟩)] ++ (J j 6 6))
abbrev sStC_m (K Z:List Int):List Mb:= [((wA .u8 32 K),(27,(0,0))),((wA .u8 16 Z),(22,(0,0))),((wA .u8 16 Z),(22,(0,0)))]
def sSt1p_h (i:Nat):Hn:=⟨0,[],[],[],[]⟩
def sSt1p_b (K Z:List Int) (j:Nat→Value):List Value:=([j 0,j 1,.pointer (some ⟨0,0,none⟩),.pointer (some ⟨1,0,none⟩),j 4,.pointer (some ⟨2,0,none⟩),.agg (wA .u8 16 Z)] ++ (J j 7 5))
theorem sSt1p_0 (K Z:List Int) (j:Nat→Value):evC (yty.en tabV0) sSt1p_h (cAt [1,0] (bdy Try.f37)) ⟨sStB_s K Z j,sStB_m K Z,True,[]⟩=some (.normal,⟨sSt1p_b K Z j,[((wA .u8 32 K),(27,(0,0))),((wA .u8 16 Z),(22,(0,0))),((wA .u8 16 Z),(22,(0,0)))],((True∧True)∧((wA .u8 16 Z).all (fun v=>v.oneCell')=true)),[]⟩):=by kernel_rfl
theorem sSt1 (K Z:List Int) (j:Nat→Value)   {c0:Prop} {ch0:List (Option Value)}:Runs Try.prog (cAt [1,0] (bdy Try.f37)) ⟨sStB_s K Z j,sStB_m K Z,c0,ch0⟩ (fun e s=>e= .normal∧∃(j:Nat→Value) (c:Prop) (ch:List (Option Value)),s=⟨sStC_s K Z j,sStC_m K Z,c,ch⟩) 0:=by
  refine(runs_ev mixed _ (sSt1p_0 K Z j) ⟨⟨trivial,trivial⟩,(wA_one _ _ _)⟩).mono ?_
  rintro e s ⟨rfl,hs⟩
  refine⟨rfl,fun q=>s.tm.getD q undef,s.c,s.ch,?_⟩
  subst hs
  kernel_rfl
abbrev sStD_s (K Z:List Int) (j:Nat→Value):List Value:=([j 0,j 1,.pointer (some ⟨0,0,none⟩),.pointer (some ⟨1,0,none⟩),j 4,.pointer (some ⟨2,0,none⟩)] ++ (J j 6 6))
abbrev sStD_m (K Z:List Int):List Mb:= [((wA .u8 32 K),(27,(0,0))),((wA .u8 16 Z),(22,(0,0))),((wA .u8 16 (lset 16 Z 15 (bits .or .u8 (Z.getD 15 0) 128))),(22,(0,0)))]
def sSt2p_h (i:Nat):Hn:=⟨0,[],[],[],[]⟩
def sSt2p_b (K Z:List Int) (j:Nat→Value):List Value:=([j 0,j 1,.pointer (some ⟨0,0,none⟩),.pointer (some ⟨1,0,none⟩),j 4,.pointer (some ⟨2,0,none⟩),j 6,.pointer (some ⟨2,15,none⟩),.int .u8 (Z.getD 15 0),.int .u8 (bits .or .u8 (Z.getD 15 0) 128),.pointer (some ⟨2,15,none⟩),j 11])
theorem sSt2p_0 (K Z:List Int) (j:Nat→Value):evC (yty.en tabV0) sSt2p_h (cAt [1,1,0] (bdy Try.f37)) ⟨sStC_s K Z j,sStC_m K Z,True,[some (.int .u8 (Z.getD 15 0)),none,some (.agg (wA .u8 16 [(Z.getD 0 0),(Z.getD 1 0),(Z.getD 2 0),(Z.getD 3 0),(Z.getD 4 0),(Z.getD 5 0),(Z.getD 6 0),(Z.getD 7 0),(Z.getD 8 0),(Z.getD 9 0),(Z.getD 10 0),(Z.getD 11 0),(Z.getD 12 0),(Z.getD 13 0),(Z.getD 14 0),(bits .or .u8 (Z.getD 15 0) 128)]))]⟩=some (.normal,⟨sSt2p_b K Z j,[((wA .u8 32 K),(27,(0,0))),((wA .u8 16 Z),(22,(0,0))),((wA .u8 16 [(Z.getD 0 0),(Z.getD 1 0),(Z.getD 2 0),(Z.getD 3 0),(Z.getD 4 0),(Z.getD 5 0),(Z.getD 6 0),(Z.getD 7 0),(Z.getD 8 0),(Z.getD 9 0),(Z.getD 10 0),(Z.getD 11 0),(Z.getD 12 0),(Z.getD 13 0),(Z.getD 14 0),(bits .or .u8 (Z.getD 15 0) 128)]),(22,(0,0)))],(((((True∧((0:Int)≤15∧(15:Int)<((16:Nat):Int)))∧(((wA .u8 16 Z)[15]? =some (.int .u8 (Z.getD 15 0)))∧(Z.getD 15 0)=(Z.getD 15 0)))∧True)∧((0:Int)≤15∧(15:Int)<((16:Nat):Int)))∧(15<(wA .u8 16 Z).size∧(wA .u8 16 Z).setIfInBounds (15) (.int .u8 (bits .or .u8 (Z.getD 15 0) 128))=(wA .u8 16 [(Z.getD 0 0),(Z.getD 1 0),(Z.getD 2 0),(Z.getD 3 0),(Z.getD 4 0),(Z.getD 5 0),(Z.getD 6 0),(Z.getD 7 0),(Z.getD 8 0),(Z.getD 9 0),(Z.getD 10 0),(Z.getD 11 0),(Z.getD 12 0),(Z.getD 13 0),(Z.getD 14 0),(bits .or .u8 (Z.getD 15 0) 128)]))),[]⟩):=by kernel_rfl
theorem sSt2 (K Z:List Int) (j:Nat→Value)   {c0:Prop} {ch0:List (Option Value)}:Runs Try.prog (cAt [1,1,0] (bdy Try.f37)) ⟨sStC_s K Z j,sStC_m K Z,c0,ch0⟩ (fun e s=>e= .normal∧∃(j:Nat→Value) (c:Prop) (ch:List (Option Value)),s=⟨sStD_s K Z j,sStD_m K Z,c,ch⟩) 0:=by
  refine(runs_ev mixed _ (sSt2p_0 K Z j) ⟨⟨⟨⟨⟨trivial,⟨by decide,by decide⟩⟩,⟨(wA_get (by omega) (by omega)),rfl⟩⟩,trivial⟩,⟨by decide,by decide⟩⟩,⟨by rw[wA_size];omega,by kernel_rfl⟩⟩).mono ?_
  rintro e s ⟨rfl,hs⟩
  refine⟨rfl,fun q=>s.tm.getD q undef,s.c,s.ch,?_⟩
  subst hs
  kernel_rfl
abbrev sStE_s (K Z:List Int) (f:Fn) (x y:Array Value) (j:Nat→Value):List Value:=(J j 0 4 ++ ([(.func f x y)] ++ (J j 5 7)))
abbrev sStE_m (K Z:List Int) (f:Fn) (x y:Array Value):List Mb:= [((wA .u8 32 K),(27,(0,0))),((wA .u8 16 Z),(22,(0,0))),((wA .u8 16 (lset 16 Z 15 (bits .or .u8 (Z.getD 15 0) 128))),(22,(0,0)))]
def sSt3p_m0 (K Z:List Int) (j:Nat→Value):List Value:=([j 0,j 1,.pointer (some ⟨0,0,none⟩),.pointer (some ⟨1,0,none⟩),j 4,.pointer (some ⟨2,0,none⟩)] ++ (J j 6 6))
theorem sSt3p_0 (K Z:List Int) (j:Nat→Value):evL (yty.en tabV0) (oT (cAt [1,1,1,0] (bdy Try.f37))) ((oT (cAt [1,1,1,0] (bdy Try.f37))).toList.take 0) ⟨sStD_s K Z j,sStD_m K Z,True,[]⟩=some ⟨sSt3p_m0 K Z j,[((wA .u8 32 K),(27,(0,0))),((wA .u8 16 Z),(22,(0,0))),((wA .u8 16 (lset 16 Z 15 (bits .or .u8 (Z.getD 15 0) 128))),(22,(0,0)))],True,[]⟩:=by kernel_rfl
def sSt3p_b (K Z:List Int) (j:Nat→Value) (f1:Fn) (x1 y1:Array Value):List Value:=([j 0,j 1,.pointer (some ⟨0,0,none⟩),.pointer (some ⟨1,0,none⟩),(.func f1 x1 y1),.pointer (some ⟨2,0,none⟩)] ++ (J j 6 5 ++ ([(.func f1 x1 y1)])))
theorem sSt3p_e (K Z:List Int) (j:Nat→Value) (f1:Fn) (x1 y1:Array Value):evL (yty.en tabV0) (oT (cAt [1,1,1,0] (bdy Try.f37))) ((oT (cAt [1,1,1,0] (bdy Try.f37))).toList.drop 1) ⟨putS (sSt3p_m0 K Z j) (some 11) (.func f1 x1 y1),[((wA .u8 32 K),(27,(0,0))),((wA .u8 16 Z),(22,(0,0))),((wA .u8 16 (lset 16 Z 15 (bits .or .u8 (Z.getD 15 0) 128))),(22,(0,0)))],True,[]⟩=some ⟨sSt3p_b K Z j f1 x1 y1,[((wA .u8 32 K),(27,(0,0))),((wA .u8 16 Z),(22,(0,0))),((wA .u8 16 (lset 16 Z 15 (bits .or .u8 (Z.getD 15 0) 128))),(22,(0,0)))],(True∧True),[]⟩:=by kernel_rfl
theorem sSt3 (K Z:List Int) (j:Nat→Value)   {c0:Prop} {ch0:List (Option Value)}:Runs Try.prog (cAt [1,1,1,0] (bdy Try.f37)) ⟨sStD_s K Z j,sStD_m K Z,c0,ch0⟩ (fun e s=>e= .normal∧∃(f1:Fn) (x1 y1:Array Value) (j:Nat→Value) (c:Prop) (ch:List (Option Value)),s=⟨sStE_s K Z f1 x1 y1 j,sStE_m K Z f1 x1 y1,c,ch⟩) 0:=by
  refine runs_region (K:=fun s=>∃(f1:Fn) (x1 y1:Array Value) (j:Nat→Value) (c:Prop) (ch:List (Option Value)),s=⟨sStE_s K Z f1 x1 y1 j,sStE_m K Z f1 x1 y1,c,ch⟩) (by kernel_rfl) ?_
  refine runsL_fnS (E:=(yty.en tabV0)) (d:=some 11) 0 (sSt3p_0 K Z j) trivial (by kernel_rfl) (fun f1 x1 y1 c ch=> ?_)
  refine(runsL_ev _ (sSt3p_e K Z j f1 x1 y1) ⟨trivial,trivial⟩).mono ?_
  rintro s hs
  refine⟨f1,x1,y1,fun q=>s.tm.getD q undef,s.c,s.ch,?_⟩
  subst hs
  kernel_rfl
abbrev sStF_s (K Z:List Int) (f:Fn) (x y:Array Value) (j:Nat→Value):List Value:=(J j 0 4 ++ ([(.func f x y)] ++ (J j 5 7)))
abbrev sStF_m (K Z:List Int) (f:Fn) (x y:Array Value):List Mb:= [((wA .u8 32 K),(27,(0,0))),((wA .u8 16 Z),(22,(0,0))),((wA .u8 16 (lset 16 Z 15 (bits .or .u8 (Z.getD 15 0) 128))),(22,(0,0)))]
def sSt4p_h (i:Nat):Hn:=⟨0,[],[],[],[]⟩
def sSt4p_b (K Z:List Int) (f:Fn) (x y:Array Value) (j:Nat→Value):List Value:=(J j 0 4 ++ ([(.func f x y)] ++ (J j 5 7)))
theorem sSt4p_0 (K Z:List Int) (f:Fn) (x y:Array Value) (j:Nat→Value):evC (yty.en tabV0) sSt4p_h (cAt [1,1,1,1] (bdy Try.f37)) ⟨sStE_s K Z f x y j,sStE_m K Z f x y,True,[]⟩=some (.ret,⟨sSt4p_b K Z f x y j,[((wA .u8 32 K),(27,(0,0))),((wA .u8 16 Z),(22,(0,0))),((wA .u8 16 (lset 16 Z 15 (bits .or .u8 (Z.getD 15 0) 128))),(22,(0,0)))],True,[]⟩):=by kernel_rfl
theorem sSt4 (K Z:List Int) (f:Fn) (x y:Array Value) (j:Nat→Value)   {c0:Prop} {ch0:List (Option Value)}:Runs Try.prog (cAt [1,1,1,1] (bdy Try.f37)) ⟨sStE_s K Z f x y j,sStE_m K Z f x y,c0,ch0⟩ (fun e s=>e= .ret∧∃(j:Nat→Value) (c:Prop) (ch:List (Option Value)),s=⟨sStF_s K Z f x y j,sStF_m K Z f x y,c,ch⟩) 0:=by
  refine(runs_ev mixed _ (sSt4p_0 K Z f x y j) trivial).mono ?_
  rintro e s ⟨rfl,hs⟩
  refine⟨rfl,fun q=>s.tm.getD q undef,s.c,s.ch,?_⟩
  subst hs
  kernel_rfl
theorem sStu (K Z:List Int) (j:Nat→Value)   {c0:Prop} {ch0:List (Option Value)}:Runs Try.prog (cAt [] (bdy Try.f37)) ⟨sStA_s K Z j,sStA_m K Z,c0,ch0⟩ (fun e s=>e= .ret∧∃(f13:Fn) (x13:Array Value) (y13:Array Value) (j:Nat→Value) (c:Prop) (ch:List (Option Value)),s=⟨sStF_s K Z f13 x13 y13 j,sStF_m K Z f13 x13 y13,c,ch⟩) 0:=by
  rw[show(cAt [] (bdy Try.f37))=(.seq (cAt [0] (bdy Try.f37)) (.seq (cAt [1,0] (bdy Try.f37)) (.seq (cAt [1,1,0] (bdy Try.f37)) (.seq (cAt [1,1,1,0] (bdy Try.f37)) (cAt [1,1,1,1] (bdy Try.f37)))))) from by kernel_rfl]
  refine runs_seq (sSt0 K Z j  ) (fun s hh=> ?_) (fun e s hne hh=>absurd hh.1 hne)
  obtain⟨_,j,c,ch,rfl⟩:=hh
  refine runs_seq (sSt1 K Z j  ) (fun s hh=> ?_) (fun e s hne hh=>absurd hh.1 hne)
  obtain⟨_,j,c,ch,rfl⟩:=hh
  refine runs_seq (sSt2 K Z j  ) (fun s hh=> ?_) (fun e s hne hh=>absurd hh.1 hne)
  obtain⟨_,j,c,ch,rfl⟩:=hh
  refine runs_seq (sSt3 K Z j  ) (fun s hh=> ?_) (fun e s hne hh=>absurd hh.1 hne)
  obtain⟨_,f13,x13,y13,j,c,ch,rfl⟩:=hh
  refine(sSt4 K Z f13 x13 y13 j  ).mono ?_
  rintro e s ⟨rfl,j,c,ch,rfl⟩
  exact⟨rfl,f13,x13,y13,j,c,ch,rfl⟩
theorem sSt_h (K Z:List Int) (mem:List Mb) (ng:Nat):Hides Try.prog 37 mem [.agg (wA .u8 32 K),.agg (wA .u8 16 Z)] (fun v=>∃ f x y,v= .func f x y) ng:=fun w β _ _=>
  hides_runs (fk:=0) (mem:= []) Try.func37 (c:=bdy Try.f37) (by kernel_rfl) ⟨rfl,by decide⟩ (args:= [.agg (wA .u8 32 K),.agg (wA .u8 16 Z)]) (by kernel_rfl) (r:=4) (by kernel_rfl) (sStu K Z (fun _=>undef)) (fun e s h=>by
    obtain⟨rfl,f,x,y,j,c,ch,rfl⟩:=h
    exact⟨rfl,rfl,f,x,y,rfl⟩) w β (fun i x hx=>by simp at hx) (fun i hi=>by simp at hi)
abbrev sAdA_s (u v:Value) (bp:Option Addr) (cp:Nat) (j:Nat→Value):List Value:=([u,.slice bp 0 cp,v] ++ (JU 40))
abbrev sAdA_m (u v:Value) (bp:Option Addr) (cp:Nat):List Mb:= []
abbrev sAdB_s (u v:Value) (bp:Option Addr) (cp:Nat) (j:Nat→Value):List Value:=([j 0,.slice bp 0 cp] ++ (J j 2 4 ++ ([.int .i64 0] ++ (J j 7 36))))
abbrev sAdB_m (u v:Value) (bp:Option Addr) (cp:Nat):List Mb:= []
def sAd0p_h (i:Nat):Hn:=⟨0,[],[],[],[]⟩
def sAd0p_b (u v:Value) (bp:Option Addr) (cp:Nat) (j:Nat→Value):List Value:=([u,.slice bp 0 cp,v] ++ (JU 3 ++ ([.int .i64 0] ++ (JU 36))))
theorem sAd0p_0 (u v:Value) (bp:Option Addr) (cp:Nat) (j:Nat→Value):evC (yty.en tabV0) sAd0p_h (cAt [0] (bdy Try.f36)) ⟨sAdA_s u v bp cp j,sAdA_m u v bp cp,True,[]⟩=some (.normal,⟨sAd0p_b u v bp cp j,[],(True∧True),[]⟩):=by kernel_rfl
theorem sAd0 (u v:Value) (bp:Option Addr) (cp:Nat) (j:Nat→Value)   {c0:Prop} {ch0:List (Option Value)}:Runs Try.prog (cAt [0] (bdy Try.f36)) ⟨sAdA_s u v bp cp j,sAdA_m u v bp cp,c0,ch0⟩ (fun e s=>e= .normal∧∃(j:Nat→Value) (c:Prop) (ch:List (Option Value)),s=⟨sAdB_s u v bp cp j,sAdB_m u v bp cp,c,ch⟩) 0:=by
  refine(runs_ev mixed _ (sAd0p_0 u v bp cp j) ⟨trivial,trivial⟩).mono ?_
  rintro e s ⟨rfl,hs⟩
  refine⟨rfl,fun q=>s.tm.getD q undef,s.c,s.ch,?_⟩
  subst hs
  kernel_rfl
abbrev sAdC_s (u v:Value) (bp:Option Addr) (cp:Nat) (j:Nat→Value):List Value:=(J j 0 43)
abbrev sAdC_m (u v:Value) (bp:Option Addr) (cp:Nat):List Mb:= []
def sAd1p_h (i:Nat):Hn:=⟨0,[],[],[],[]⟩
def sAd1p_b (u v:Value) (bp:Option Addr) (cp:Nat) (j:Nat→Value):List Value:=([j 0,.slice bp 0 cp] ++ (J j 2 4 ++ ([.int .i64 0] ++ (J j 7 3 ++ ([.int .i64 0,.slice bp 0 cp,.int .i64 ((0:Nat):Int),.bool false] ++ (J j 14 29))))))
theorem sAd1p_0 (u v:Value) (bp:Option Addr) (cp:Nat) (j:Nat→Value):evC (yty.en tabV0) sAd1p_h (cAt [1,0,0,0] (bdy Try.f36)) ⟨sAdB_s u v bp cp j,sAdB_m u v bp cp,True,[some (.bool false)]⟩=some ((.exit 0),⟨sAd1p_b u v bp cp j,[],((((True∧True)∧True)∧True)∧(True∧(decide (0<((0:Nat):Int)))=false)),[]⟩):=by kernel_rfl
theorem sAd1 (u v:Value) (bp:Option Addr) (cp:Nat) (j:Nat→Value)   {c0:Prop} {ch0:List (Option Value)}:Runs Try.prog (cAt [1,0,0,0] (bdy Try.f36)) ⟨sAdB_s u v bp cp j,sAdB_m u v bp cp,c0,ch0⟩ (fun e s=>e=(.exit 0)∧∃(j:Nat→Value) (c:Prop) (ch:List (Option Value)),s=⟨sAdC_s u v bp cp j,sAdC_m u v bp cp,c,ch⟩) 0:=by
  have h0:(decide (0<((0:Nat):Int)))=false:=rfl
  refine(runs_ev mixed _ (sAd1p_0 u v bp cp j) ⟨⟨⟨⟨trivial,trivial⟩,trivial⟩,trivial⟩,⟨trivial,h0⟩⟩).mono ?_
  rintro e s ⟨rfl,hs⟩
  refine⟨rfl,fun q=>s.tm.getD q undef,s.c,s.ch,?_⟩
  subst hs
  kernel_rfl
theorem sAd_c (u v:Value) (bp:Option Addr) (cp:Nat) (hu:okp 0 u=true) (hb:okp 0 (.slice bp 0 cp)=true) (hv:np v=true):Reads Try.prog 36 [] [u,.slice bp 0 cp,v] (.tuple #[]):=by
  refine reads_runs0 (fk:=0) (yty.en tabV0) Try.func36 (c:=bdy Try.f36) (by kernel_rfl) ⟨rfl,by decide⟩ (args:= [u,.slice bp 0 cp,v]) ?_ (by kernel_rfl) (K:=fun e s=>e= .normal) ?_ (fun e s h=>h)
  · show (Go.Ev.okp 0 u && (Go.Ev.okp 0 (.slice bp 0 cp) && (Go.Ev.okp 0 v && true))) = true
    rw[hu,hb,okp_np hv];rfl
  · rw [show (bdy Try.f36) = .seq (cAt [0] (bdy Try.f36)) (.block 0 (.loop (cAt [1, 0, 0] (bdy Try.f36)))) from by kernel_rfl]
    refine runs_seq (sAd0 u v bp cp (fun _=>undef)) (fun s hh=> ?_) (fun e s hne hh=>absurd hh.1 hne)
    obtain⟨_,j,c,ch,rfl⟩:=hh
    refine runs_block (K1:=fun e s=>e= .exit 0) ?_ (by rintro e s rfl;exact .inl ⟨rfl,rfl⟩)
    refine runs_loop (fun M s=>∃(j:Nat→Value) (c:Prop) (ch:List (Option Value)),s=⟨sAdB_s u v bp cp j,sAdB_m u v bp cp,c,ch⟩) 0 ⟨j,c,ch,rfl⟩ ?_
    rintro M s ⟨j,c,ch,rfl⟩
    rw[show cAt [1,0,0] (bdy Try.f36)= .seq (cAt [1,0,0,0] (bdy Try.f36)) (cAt [1,0,0,1] (bdy Try.f36)) from by kernel_rfl]
    refine runs_seq (sAd1 u v bp cp j) (fun s hh=>absurd hh.1 (by simp)) (fun e s hne hh=> ?_)
    obtain⟨rfl,_⟩:=hh
    exact .inr ⟨by simp,rfl⟩
theorem dn_slc {n M:Nat} (bp:Option Addr) (l c:Nat):∃ bq,dn n M (.slice bp l c)= .slice bq l c:=by
  cases bp with
  |none=>exact⟨none,rfl⟩
  | some a =>
    obtain⟨i,o,s⟩:=a
    cases s with
    | none =>
      simp only[dn]
      split
      · exact⟨_,rfl⟩
      · exact⟨_,rfl⟩
    |some s=>exact⟨_,rfl⟩
theorem dn_np {n M:Nat} {v:Value} (h:np v=true):dn n M v=v:=by
  cases v with
  |slice a l c=>cases a<;>first|rfl|(simp[np] at h)
  |_=>first|rfl|(simp[np] at h)
theorem sAd_h (mem:List Mb) (u v:Value) (bp:Option Addr) (cp ng:Nat) (hu:okp mem.length u=true) (hb:okp mem.length (.slice bp 0 cp)=true) (hv:np v=true):Hides Try.prog 36 mem [u,.slice bp 0 cp,v] (fun r=>r= .tuple #[]) ng:=
  hides_far rfl (by
    show(Go.Ev.okp mem.length u && (Go.Ev.okp mem.length (.slice bp 0 cp) && (Go.Ev.okp mem.length v && true)))=true
    rw[hu,hb,okp_np hv];rfl) (fun M hM _=>by
    obtain⟨bq,e⟩:=dn_slc (n:=0) (M:=M) bp 0 cp
    show Reads Try.prog _ [] [dn 0 M u,dn 0 M (.slice bp 0 cp),dn 0 M v] _
    rw[e,dn_np hv]
    exact sAd_c _ v bq cp (dn_ok hM hu) (by rw[← e];exact dn_ok hM hb) hv)
abbrev sSlA_s (K N:List Int) (j:Nat→Value):List Value:=([.agg (wA .u8 32 K),.agg (wA .u8 12 N),.slice none 0 0,.slice none 0 0] ++ (JU 47))
abbrev sSlA_m (K N:List Int):List Mb:= []
abbrev sSlB_s (K N:List Int) (j:Nat→Value):List Value:=([j 0,j 1,.slice none 0 0,.slice none 0 0,.pointer (some ⟨0,0,none⟩),.pointer (some ⟨1,0,none⟩)] ++ (J j 6 45))
abbrev sSlB_m (K N:List Int):List Mb:= [((wA .u8 32 K),(27,(0,0))),((wA .u8 12 N),(28,(0,0)))]
def sSl0p_h (i:Nat):Hn:=⟨0,[],[],[],[]⟩
def sSl0p_b (K N:List Int) (j:Nat→Value):List Value:=([.agg (wA .u8 32 K),.agg (wA .u8 12 N),.slice none 0 0,.slice none 0 0,.pointer (some ⟨0,0,none⟩),.pointer (some ⟨1,0,none⟩),undef,undef,.slice none 0 0,.int .i64 0] ++ (JU 41))
theorem sSl0p_0 (K N:List Int) (j:Nat→Value):evC (yty.en tabW3) sSl0p_h (cAt [0] (bdy Try.f20)) ⟨sSlA_s K N j,sSlA_m K N,True,[]⟩=some (.normal,⟨sSl0p_b K N j,[((wA .u8 32 K),(27,(0,0))),((wA .u8 12 N),(28,(0,0)))],((True∧True)∧True),[]⟩):=by kernel_rfl
theorem sSl0 (K N:List Int) (j:Nat→Value) (hK:By K) (hN:By N)  {c0:Prop} {ch0:List (Option Value)}:Runs Try.prog (cAt [0] (bdy Try.f20)) ⟨sSlA_s K N j,sSlA_m K N,c0,ch0⟩ (fun e s=>e= .normal∧∃(j:Nat→Value) (c:Prop) (ch:List (Option Value)),s=⟨sSlB_s K N j,sSlB_m K N,c,ch⟩) 0:=by
  refine(runs_ev mixed _ (sSl0p_0 K N j) ⟨⟨trivial,trivial⟩,trivial⟩).mono ?_
  rintro e s ⟨rfl,hs⟩
  refine⟨rfl,fun q=>s.tm.getD q undef,s.c,s.ch,?_⟩
  subst hs
  kernel_rfl
def sSl1p_h (i:Nat):Hn:=⟨0,[],[],[],[]⟩
def sSl1p_b (K N:List Int) (j:Nat→Value):List Value:=([j 0,j 1,.slice none 0 0,.slice none 0 0,.pointer (some ⟨0,0,none⟩),.pointer (some ⟨1,0,none⟩)] ++ (J j 6 8 ++ ([.slice none 0 0,.int .i64 0,.bool false,.bool false,.slice none 0 0,.int .i64 0,.bool false,.bool false] ++ (J j 22 29))))
theorem sSl1p_0 (K N:List Int) (j:Nat→Value):evC (yty.en tabW3) sSl1p_h (cAt [1,0] (bdy Try.f20)) ⟨sSlB_s K N j,sSlB_m K N,True,[]⟩=some (.normal,⟨sSl1p_b K N j,[((wA .u8 32 K),(27,(0,0))),((wA .u8 12 N),(28,(0,0)))],((((((((True∧True)∧True)∧True)∧True)∧True)∧True)∧True)∧True),[]⟩):=by kernel_rfl
theorem sSl1 (K N:List Int) (j:Nat→Value) (hK:By K) (hN:By N)  {c0:Prop} {ch0:List (Option Value)}:Runs Try.prog (cAt [1,0] (bdy Try.f20)) ⟨sSlB_s K N j,sSlB_m K N,c0,ch0⟩ (fun e s=>e= .normal∧∃(j:Nat→Value) (c:Prop) (ch:List (Option Value)),s=⟨sSlB_s K N j,sSlB_m K N,c,ch⟩) 0:=by
  refine(runs_ev mixed _ (sSl1p_0 K N j) ⟨⟨⟨⟨⟨⟨⟨⟨trivial,trivial⟩,trivial⟩,trivial⟩,trivial⟩,trivial⟩,trivial⟩,trivial⟩,trivial⟩).mono ?_
  rintro e s ⟨rfl,hs⟩
  refine⟨rfl,fun q=>s.tm.getD q undef,s.c,s.ch,?_⟩
  subst hs
  kernel_rfl
abbrev sSlC_s (K N:List Int) (B V:List Int) (j:Nat→Value):List Value:=([j 0,j 1,.slice none 0 0,.slice none 0 0,.pointer (some ⟨0,0,none⟩),.pointer (some ⟨1,0,none⟩)] ++ (J j 6 4 ++ ([.pointer (some ⟨2,0,none⟩),.pointer (some ⟨3,0,none⟩)] ++ (J j 12 39))))
abbrev sSlC_m (K N:List Int) (B V:List Int):List Mb:= [((wA .u8 32 K),(27,(0,0))),((wA .u8 12 N),(28,(0,0))),((wA .u8 16 B),(22,(0,0))),((wA .u8 32 V),(27,(0,0)))]
def sSl2p_h (i:Nat):Hn:=⟨0,[],[],[],[]⟩
def sSl2p_b (K N:List Int) (j:Nat→Value):List Value:=([j 0,j 1,.slice none 0 0,.slice none 0 0,.pointer (some ⟨0,0,none⟩),.pointer (some ⟨1,0,none⟩)] ++ (J j 6 4 ++ ([.pointer (some ⟨2,0,none⟩),.pointer (some ⟨3,0,none⟩)] ++ (J j 12 10 ++ ([.tuple #[.agg (wA .u8 16 (kyL (dL8 (wA .u8 32 K)) (dL8 (wA .u8 12 N)) 0 2)),.agg (wA .u8 32 (kyL (dL8 (wA .u8 32 K)) (dL8 (wA .u8 12 N)) 2 4))],.agg (wA .u8 32 K),.agg (wA .u8 12 N),.tuple #[.agg (wA .u8 16 (kyL (dL8 (wA .u8 32 K)) (dL8 (wA .u8 12 N)) 0 2)),.agg (wA .u8 32 (kyL (dL8 (wA .u8 32 K)) (dL8 (wA .u8 12 N)) 2 4))],.agg (wA .u8 16 (kyL (dL8 (wA .u8 32 K)) (dL8 (wA .u8 12 N)) 0 2)),.agg (wA .u8 32 (kyL (dL8 (wA .u8 32 K)) (dL8 (wA .u8 12 N)) 2 4))] ++ (J j 28 23))))))
theorem sSl2p_0 (K N:List Int) (j:Nat→Value):evC (yty.en tabW3) sSl2p_h (cAt [1,1,0] (bdy Try.f20)) ⟨sSlB_s K N j,sSlB_m K N,True,[]⟩=some (.normal,⟨sSl2p_b K N j,[((wA .u8 32 K),(27,(0,0))),((wA .u8 12 N),(28,(0,0))),((wA .u8 16 (kyL (dL8 (wA .u8 32 K)) (dL8 (wA .u8 12 N)) 0 2)),(22,(0,0))),((wA .u8 32 (kyL (dL8 (wA .u8 32 K)) (dL8 (wA .u8 12 N)) 2 4)),(27,(0,0)))],((((((((True∧True)∧True)∧(((wA .u8 32 K)=wA .u8 32 (dL8 (wA .u8 32 K))∧By (dL8 (wA .u8 32 K)))∧((wA .u8 12 N)=wA .u8 12 (dL8 (wA .u8 12 N))∧By (dL8 (wA .u8 12 N)))))∧True)∧True)∧True)∧((wA .u8 16 (kyL (dL8 (wA .u8 32 K)) (dL8 (wA .u8 12 N)) 0 2)).all (fun v=>v.oneCell')=true))∧((wA .u8 32 (kyL (dL8 (wA .u8 32 K)) (dL8 (wA .u8 12 N)) 2 4)).all (fun v=>v.oneCell')=true)),[]⟩):=by kernel_rfl
theorem sSl2 (K N:List Int) (j:Nat→Value) (hK:By K) (hN:By N)  {c0:Prop} {ch0:List (Option Value)}:Runs Try.prog (cAt [1,1,0] (bdy Try.f20)) ⟨sSlB_s K N j,sSlB_m K N,c0,ch0⟩ (fun e s=>e= .normal∧∃(j:Nat→Value) (c:Prop) (ch:List (Option Value)),((kyL (dL8 (wA .u8 32 K)) (dL8 (wA .u8 12 N)) 0 2)=kyL K N 0 2)∧((kyL (dL8 (wA .u8 32 K)) (dL8 (wA .u8 12 N)) 2 4)=kyL K N 2 4)∧s=⟨sSlC_s K N (kyL (dL8 (wA .u8 32 K)) (dL8 (wA .u8 12 N)) 0 2) (kyL (dL8 (wA .u8 32 K)) (dL8 (wA .u8 12 N)) 2 4) j,sSlC_m K N (kyL (dL8 (wA .u8 32 K)) (dL8 (wA .u8 12 N)) 0 2) (kyL (dL8 (wA .u8 32 K)) (dL8 (wA .u8 12 N)) 2 4),c,ch⟩) 0:=by
  refine(runs_ev mixed _ (sSl2p_0 K N j) ⟨⟨⟨⟨⟨⟨⟨⟨trivial,trivial⟩,trivial⟩,⟨dq hK,dq hN⟩⟩,trivial⟩,trivial⟩,trivial⟩,(wA_one _ _ _)⟩,(wA_one _ _ _)⟩).mono ?_
  rintro e s ⟨rfl,hs⟩
  refine⟨rfl,fun q=>s.tm.getD q undef,s.c,s.ch,kyL_w _ _ _ _,kyL_w _ _ _ _,?_⟩
  subst hs
  kernel_rfl
abbrev sSlD_s (K N:List Int) (B V:List Int) (G:List Int) (j:Nat→Value):List Value:=([j 0,j 1,.slice none 0 0,.slice none 0 0,.pointer (some ⟨0,0,none⟩),.pointer (some ⟨1,0,none⟩)] ++ (J j 6 4 ++ ([.pointer (some ⟨2,0,none⟩),.pointer (some ⟨3,0,none⟩),.pointer (some ⟨4,0,none⟩)] ++ (J j 13 38))))
abbrev sSlD_m (K N:List Int) (B V:List Int) (G:List Int):List Mb:= [((wA .u8 32 K),(27,(0,0))),((wA .u8 12 N),(28,(0,0))),((wA .u8 16 B),(22,(0,0))),((wA .u8 32 V),(27,(0,0))),((wA .u8 16 G),(22,(0,0)))]
theorem tsL_w (HB A X:List Int):tsL (dL8 (wA .u8 16 HB)) A X=tsL HB A X:=by
  have h:∀ S L,absL (dL8 (wA .u8 16 HB)) S L=absL HB S L:=fun S L=>by rw[← absL_w1,absL_w]
  unfold tsL
  rw[h,h,h]
theorem tagL_w (HB TK N A X:List Int):tagL (dL8 (wA .u8 16 HB)) (dL8 (wA .u8 32 TK)) (dL8 (wA .u8 12 N)) A X=tagL HB TK N A X:=by
  have h:xrv (tsL HB A X) (dL8 (wA .u8 12 N)) 12=xrv (tsL HB A X) N 12:=List.map_congr_left fun k _=>by
    by_cases hk:k<12
    · rw[if_pos hk,if_pos hk,dL8_wA,if_pos hk]
    · rw[if_neg hk,if_neg hk]
  unfold tagL
  rw[tsL_w,h,← encL_q TK,← encL_q (dL8 (wA .u8 32 TK)),← dL8_self 32 TK]
theorem tagL_len (HB TK N A X:List Int):(tagL HB TK N A X).length=16:=by simp[tagL,encL,addL]
theorem tagL_by (HB TK N A X:List Int):By (tagL HB TK N A X):=encL_by _ _
def sSl3p_h (i:Nat):Hn:=⟨0,[],[],[],[]⟩
def sSl3p_b (K N:List Int) (B V:List Int) (j:Nat→Value):List Value:=([j 0,j 1,.slice none 0 0,.slice none 0 0,.pointer (some ⟨0,0,none⟩),.pointer (some ⟨1,0,none⟩)] ++ (J j 6 4 ++ ([.pointer (some ⟨2,0,none⟩),.pointer (some ⟨3,0,none⟩),.pointer (some ⟨4,0,none⟩)] ++ (J j 13 15 ++ ([.agg (wA .u8 16 B),.agg (wA .u8 32 V),.agg (wA .u8 12 N),.slice none 0 0,.slice none 0 0,.agg (wA .u8 16 (tagL (dL8 (wA .u8 16 B)) (dL8 (wA .u8 32 V)) (dL8 (wA .u8 12 N)) (bOf [((wA .u8 32 K),(27,(0,0))),((wA .u8 12 N),(28,(0,0))),((wA .u8 16 B),(22,(0,0))),((wA .u8 32 V),(27,(0,0)))] none 0) (bOf [((wA .u8 32 K),(27,(0,0))),((wA .u8 12 N),(28,(0,0))),((wA .u8 16 B),(22,(0,0))),((wA .u8 32 V),(27,(0,0)))] none 0)))] ++ (J j 34 17))))))
theorem sSl3p_0 (K N:List Int) (B V:List Int) (j:Nat→Value):evC (yty.en tabW3) sSl3p_h (cAt [1,1,1,0] (bdy Try.f20)) ⟨sSlC_s K N B V j,sSlC_m K N B V,True,[]⟩=some (.normal,⟨sSl3p_b K N B V j,[((wA .u8 32 K),(27,(0,0))),((wA .u8 12 N),(28,(0,0))),((wA .u8 16 B),(22,(0,0))),((wA .u8 32 V),(27,(0,0))),((wA .u8 16 (tagL (dL8 (wA .u8 16 B)) (dL8 (wA .u8 32 V)) (dL8 (wA .u8 12 N)) (bOf [((wA .u8 32 K),(27,(0,0))),((wA .u8 12 N),(28,(0,0))),((wA .u8 16 B),(22,(0,0))),((wA .u8 32 V),(27,(0,0)))] none 0) (bOf [((wA .u8 32 K),(27,(0,0))),((wA .u8 12 N),(28,(0,0))),((wA .u8 16 B),(22,(0,0))),((wA .u8 32 V),(27,(0,0)))] none 0))),(22,(0,0)))],(((((((True∧True)∧True)∧True)∧True)∧True)∧((((wA .u8 16 B)=wA .u8 16 (dL8 (wA .u8 16 B))∧By (dL8 (wA .u8 16 B)))∧((wA .u8 32 V)=wA .u8 32 (dL8 (wA .u8 32 V))∧By (dL8 (wA .u8 32 V)))∧((wA .u8 12 N)=wA .u8 12 (dL8 (wA .u8 12 N))∧By (dL8 (wA .u8 12 N))))∧(BkOk [((wA .u8 32 K),(27,(0,0))),((wA .u8 12 N),(28,(0,0))),((wA .u8 16 B),(22,(0,0))),((wA .u8 32 V),(27,(0,0)))] none 0 0∧BkOk [((wA .u8 32 K),(27,(0,0))),((wA .u8 12 N),(28,(0,0))),((wA .u8 16 B),(22,(0,0))),((wA .u8 32 V),(27,(0,0)))] none 0 0)∧0≤1000000000∧0≤1000000000))∧((wA .u8 16 (tagL (dL8 (wA .u8 16 B)) (dL8 (wA .u8 32 V)) (dL8 (wA .u8 12 N)) (bOf [((wA .u8 32 K),(27,(0,0))),((wA .u8 12 N),(28,(0,0))),((wA .u8 16 B),(22,(0,0))),((wA .u8 32 V),(27,(0,0)))] none 0) (bOf [((wA .u8 32 K),(27,(0,0))),((wA .u8 12 N),(28,(0,0))),((wA .u8 16 B),(22,(0,0))),((wA .u8 32 V),(27,(0,0)))] none 0))).all (fun v=>v.oneCell')=true)),[]⟩):=by kernel_rfl
theorem sSl3 (K N:List Int) (B V:List Int) (j:Nat→Value) (hK:By K) (hN:By N) (hB:B=kyL K N 0 2) (hV:V=kyL K N 2 4)  {c0:Prop} {ch0:List (Option Value)}:Runs Try.prog (cAt [1,1,1,0] (bdy Try.f20)) ⟨sSlC_s K N B V j,sSlC_m K N B V,c0,ch0⟩ (fun e s=>e= .normal∧∃(j:Nat→Value) (c:Prop) (ch:List (Option Value)),((tagL (dL8 (wA .u8 16 B)) (dL8 (wA .u8 32 V)) (dL8 (wA .u8 12 N)) (bOf [((wA .u8 32 K),(27,(0,0))),((wA .u8 12 N),(28,(0,0))),((wA .u8 16 B),(22,(0,0))),((wA .u8 32 V),(27,(0,0)))] none 0) (bOf [((wA .u8 32 K),(27,(0,0))),((wA .u8 12 N),(28,(0,0))),((wA .u8 16 B),(22,(0,0))),((wA .u8 32 V),(27,(0,0)))] none 0))=tagL B V N [] [])∧s=⟨sSlD_s K N B V (tagL (dL8 (wA .u8 16 B)) (dL8 (wA .u8 32 V)) (dL8 (wA .u8 12 N)) (bOf [((wA .u8 32 K),(27,(0,0))),((wA .u8 12 N),(28,(0,0))),((wA .u8 16 B),(22,(0,0))),((wA .u8 32 V),(27,(0,0)))] none 0) (bOf [((wA .u8 32 K),(27,(0,0))),((wA .u8 12 N),(28,(0,0))),((wA .u8 16 B),(22,(0,0))),((wA .u8 32 V),(27,(0,0)))] none 0)) j,sSlD_m K N B V (tagL (dL8 (wA .u8 16 B)) (dL8 (wA .u8 32 V)) (dL8 (wA .u8 12 N)) (bOf [((wA .u8 32 K),(27,(0,0))),((wA .u8 12 N),(28,(0,0))),((wA .u8 16 B),(22,(0,0))),((wA .u8 32 V),(27,(0,0)))] none 0) (bOf [((wA .u8 32 K),(27,(0,0))),((wA .u8 12 N),(28,(0,0))),((wA .u8 16 B),(22,(0,0))),((wA .u8 32 V),(27,(0,0)))] none 0)),c,ch⟩) 0:=by
  refine(runs_ev mixed _ (sSl3p_0 K N B V j) ⟨⟨⟨⟨⟨⟨⟨trivial,trivial⟩,trivial⟩,trivial⟩,trivial⟩,trivial⟩,⟨⟨dq (by rw[hB];exact kyL_by _ _ _ _),dq (by rw[hV];exact kyL_by _ _ _ _),dq hN⟩,⟨⟨by decide,.inl ⟨rfl,rfl,rfl⟩⟩,⟨by decide,.inl ⟨rfl,rfl,rfl⟩⟩⟩,by decide,by decide⟩⟩,(wA_one _ _ _)⟩).mono ?_
  rintro e s ⟨rfl,hs⟩
  refine⟨rfl,fun q=>s.tm.getD q undef,s.c,s.ch,tagL_w _ _ _ _ _,?_⟩
  subst hs
  kernel_rfl
abbrev sSlE_s (K N:List Int) (B V:List Int) (G:List Int) (j:Nat→Value):List Value:=([j 0,j 1,.slice none 0 0,.slice none 0 0,.pointer (some ⟨0,0,none⟩),.pointer (some ⟨1,0,none⟩)] ++ (J j 6 4 ++ ([.pointer (some ⟨2,0,none⟩),.pointer (some ⟨3,0,none⟩),.pointer (some ⟨4,0,none⟩),.slice (some ⟨5,0,none⟩) 16 16] ++ (J j 14 37))))
abbrev sSlE_m (K N:List Int) (B V:List Int) (G:List Int):List Mb:= [((wA .u8 32 K),(27,(0,0))),((wA .u8 12 N),(28,(0,0))),((wA .u8 16 B),(22,(0,0))),((wA .u8 32 V),(27,(0,0))),((wA .u8 16 G),(22,(0,0))),((wA .u8 16 []),(5,(0,0)))]
def sSl4p_h (i:Nat):Hn:=⟨0,[],[],[],[]⟩
def sSl4p_b (K N:List Int) (B V:List Int) (G:List Int) (j:Nat→Value):List Value:=([j 0,j 1,.slice none 0 0,.slice none 0 0,.pointer (some ⟨0,0,none⟩),.pointer (some ⟨1,0,none⟩)] ++ (J j 6 4 ++ ([.pointer (some ⟨2,0,none⟩),.pointer (some ⟨3,0,none⟩),.pointer (some ⟨4,0,none⟩),.slice (some ⟨5,0,none⟩) 16 16] ++ (J j 14 20 ++ ([.slice none 0 0,.int .i64 0,.int .i64 16,.slice (some ⟨5,0,none⟩) 16 16] ++ (J j 38 13))))))
theorem sSl4p_0 (K N:List Int) (B V:List Int) (G:List Int) (j:Nat→Value):evC (yty.en tabW3) sSl4p_h (cAt [1,1,1,1,0] (bdy Try.f20)) ⟨sSlD_s K N B V G j,sSlD_m K N B V G,True,[]⟩=some (.normal,⟨sSl4p_b K N B V G j,[((wA .u8 32 K),(27,(0,0))),((wA .u8 12 N),(28,(0,0))),((wA .u8 16 B),(22,(0,0))),((wA .u8 32 V),(27,(0,0))),((wA .u8 16 G),(22,(0,0))),((wA .u8 16 []),(5,(0,0)))],(((((True∧True)∧True)∧True)∧((0:Int)≤16∧(16:Int)=16∧1*Int.toNat 16≤281474976710656∧Int.toNat 16≤9223372036854775807))∧True),[]⟩):=by kernel_rfl
theorem sSl4 (K N:List Int) (B V:List Int) (G:List Int) (j:Nat→Value) (hK:By K) (hN:By N) (hB:B=kyL K N 0 2) (hV:V=kyL K N 2 4) (hG:G=tagL B V N [] [])  {c0:Prop} {ch0:List (Option Value)}:Runs Try.prog (cAt [1,1,1,1,0] (bdy Try.f20)) ⟨sSlD_s K N B V G j,sSlD_m K N B V G,c0,ch0⟩ (fun e s=>e= .normal∧∃(j:Nat→Value) (c:Prop) (ch:List (Option Value)),s=⟨sSlE_s K N B V G j,sSlE_m K N B V G,c,ch⟩) 0:=by
  refine(runs_ev mixed _ (sSl4p_0 K N B V G j) ⟨⟨⟨⟨⟨trivial,trivial⟩,trivial⟩,trivial⟩,⟨by decide,rfl,by decide,by decide⟩⟩,trivial⟩).mono ?_
  rintro e s ⟨rfl,hs⟩
  refine⟨rfl,fun q=>s.tm.getD q undef,s.c,s.ch,?_⟩
  subst hs
  kernel_rfl
def sSl5p_m0 (K N:List Int) (B V:List Int) (G:List Int) (j:Nat→Value):List Value:=([j 0,j 1,.slice none 0 0,.slice none 0 0,.pointer (some ⟨0,0,none⟩),.pointer (some ⟨1,0,none⟩)] ++ (J j 6 4 ++ ([.pointer (some ⟨2,0,none⟩),.pointer (some ⟨3,0,none⟩),.pointer (some ⟨4,0,none⟩),.slice (some ⟨5,0,none⟩) 16 16] ++ (J j 14 24 ++ ([.slice (some ⟨5,0,none⟩) 16 16,.slice none 0 0,.agg (wA .u8 32 V),.agg (wA .u8 16 G)] ++ (J j 42 9))))))
theorem sSl5p_0 (K N:List Int) (B V:List Int) (G:List Int) (j:Nat→Value):evL (yty.en tabW3) (oT (cAt [1,1,1,1,1,0] (bdy Try.f20))) ((oT (cAt [1,1,1,1,1,0] (bdy Try.f20))).toList.take 4) ⟨sSlE_s K N B V G j,sSlE_m K N B V G,True,[]⟩=some ⟨sSl5p_m0 K N B V G j,[((wA .u8 32 K),(27,(0,0))),((wA .u8 12 N),(28,(0,0))),((wA .u8 16 B),(22,(0,0))),((wA .u8 32 V),(27,(0,0))),((wA .u8 16 G),(22,(0,0))),((wA .u8 16 []),(5,(0,0)))],((((True∧True)∧True)∧True)∧True),[]⟩:=by kernel_rfl
def sSl5p_m1 (K N:List Int) (B V:List Int) (G:List Int) (j:Nat→Value) (f1:Fn) (x1 y1:Array Value):List Value:=([j 0,j 1,.slice none 0 0,.slice none 0 0,.pointer (some ⟨0,0,none⟩),.pointer (some ⟨1,0,none⟩)] ++ (J j 6 4 ++ ([.pointer (some ⟨2,0,none⟩),.pointer (some ⟨3,0,none⟩),.pointer (some ⟨4,0,none⟩),.slice (some ⟨5,0,none⟩) 16 16] ++ (J j 14 24 ++ ([.slice (some ⟨5,0,none⟩) 16 16,.slice none 0 0,.agg (wA .u8 32 V),.agg (wA .u8 16 G),(.func f1 x1 y1)] ++ (J j 43 8))))))
theorem sSl5p_1 (K N:List Int) (B V:List Int) (G:List Int) (j:Nat→Value) (f1:Fn) (x1 y1:Array Value):evL (yty.en tabW3) (oT (cAt [1,1,1,1,1,0] (bdy Try.f20))) (((oT (cAt [1,1,1,1,1,0] (bdy Try.f20))).toList.drop 5).take 0) ⟨putS (sSl5p_m0 K N B V G j) (some 42) (.func f1 x1 y1),[((wA .u8 32 K),(27,(0,0))),((wA .u8 12 N),(28,(0,0))),((wA .u8 16 B),(22,(0,0))),((wA .u8 32 V),(27,(0,0))),((wA .u8 16 G),(22,(0,0))),((wA .u8 16 []),(5,(0,0)))],True,[]⟩=some ⟨sSl5p_m1 K N B V G j f1 x1 y1,[((wA .u8 32 K),(27,(0,0))),((wA .u8 12 N),(28,(0,0))),((wA .u8 16 B),(22,(0,0))),((wA .u8 32 V),(27,(0,0))),((wA .u8 16 G),(22,(0,0))),((wA .u8 16 []),(5,(0,0)))],True,[]⟩:=by kernel_rfl
def sSl5p_b (K N:List Int) (B V:List Int) (G:List Int) (j:Nat→Value) (f1:Fn) (x1 y1:Array Value):List Value:=([j 0,j 1,.slice none 0 0,.slice none 0 0,.pointer (some ⟨0,0,none⟩),.pointer (some ⟨1,0,none⟩)] ++ (J j 6 4 ++ ([.pointer (some ⟨2,0,none⟩),.pointer (some ⟨3,0,none⟩),.pointer (some ⟨4,0,none⟩),.slice (some ⟨5,0,none⟩) 16 16] ++ (J j 14 24 ++ ([.slice (some ⟨5,0,none⟩) 16 16,.slice none 0 0,.agg (wA .u8 32 V),.agg (wA .u8 16 G),(.func f1 x1 y1),(.tuple #[])] ++ (J j 44 7))))))
theorem sSl5p_e (K N:List Int) (B V:List Int) (G:List Int) (j:Nat→Value) (f1:Fn) (x1 y1:Array Value):evL (yty.en tabW3) (oT (cAt [1,1,1,1,1,0] (bdy Try.f20))) (((oT (cAt [1,1,1,1,1,0] (bdy Try.f20))).toList.drop 5).drop 1) ⟨putS (sSl5p_m1 K N B V G j f1 x1 y1) (some 43) (.tuple #[]),[((wA .u8 32 K),(27,(0,0))),((wA .u8 12 N),(28,(0,0))),((wA .u8 16 B),(22,(0,0))),((wA .u8 32 V),(27,(0,0))),((wA .u8 16 G),(22,(0,0))),((wA .u8 16 []),(5,(0,0)))],True,[]⟩=some ⟨sSl5p_b K N B V G j f1 x1 y1,[((wA .u8 32 K),(27,(0,0))),((wA .u8 12 N),(28,(0,0))),((wA .u8 16 B),(22,(0,0))),((wA .u8 32 V),(27,(0,0))),((wA .u8 16 G),(22,(0,0))),((wA .u8 16 []),(5,(0,0)))],True,[]⟩:=by kernel_rfl
theorem sSl5 (K N:List Int) (B V:List Int) (G:List Int) (j:Nat→Value) (hK:By K) (hN:By N) (hB:B=kyL K N 0 2) (hV:V=kyL K N 2 4) (hG:G=tagL B V N [] [])  {c0:Prop} {ch0:List (Option Value)}:Runs Try.prog (cAt [1,1,1,1,1,0] (bdy Try.f20)) ⟨sSlE_s K N B V G j,sSlE_m K N B V G,c0,ch0⟩ (fun e s=>e= .normal∧∃(j:Nat→Value) (c:Prop) (ch:List (Option Value)),s=⟨sSlE_s K N B V G j,sSlE_m K N B V G,c,ch⟩) 0:=by
  refine runs_region (K:=fun s=>∃(j:Nat→Value) (c:Prop) (ch:List (Option Value)),s=⟨sSlE_s K N B V G j,sSlE_m K N B V G,c,ch⟩) (by kernel_rfl) ?_
  refine runsL_callHS (E:=(yty.en tabW3)) (f:=37) (xs:= [.tmp 40,.tmp 41]) (d:=(some 42)) (G:=fun v=>∃ f x y,v= .func f x y) 4 (sSl5p_0 K N B V G j) ⟨⟨⟨⟨trivial,trivial⟩,trivial⟩,trivial⟩,trivial⟩ (by kernel_rfl) (call_of Try.func37 (by kernel_rfl) (by kernel_rfl)) rfl (sSt_h _ _ _ _) (fun v1 c ch hv1 hg1=> ?_)
  obtain⟨f1,x1,y1,rfl⟩:=hg1
  refine runsL_callHS (E:=(yty.en tabW3)) (f:=36) (xs:= [.tmp 38,.tmp 39,.tmp 42]) (d:=(some 43)) (G:=fun v=>v= .tuple #[]) 0 (sSl5p_1 K N B V G j f1 x1 y1) trivial (by kernel_rfl) (call_of Try.func36 (by kernel_rfl) (by kernel_rfl)) rfl (sAd_h _ _ _ _ _ _ (by kernel_rfl) (by kernel_rfl) rfl) (fun v2 c ch hv2 hg2=> ?_)
  subst hg2
  refine(runsL_ev _ (sSl5p_e K N B V G j f1 x1 y1) trivial).mono ?_
  rintro s hs
  refine⟨fun q=>s.tm.getD q undef,s.c,s.ch,?_⟩
  subst hs
  kernel_rfl
abbrev sSlF_s (K N:List Int) (B V:List Int) (G:List Int) (j:Nat→Value):List Value:=([j 0,j 1,.slice none 0 0,.slice none 0 0,.pointer (some ⟨0,0,none⟩),.pointer (some ⟨1,0,none⟩)] ++ (J j 6 4 ++ ([.pointer (some ⟨2,0,none⟩),.pointer (some ⟨3,0,none⟩),.pointer (some ⟨4,0,none⟩),.slice (some ⟨5,0,none⟩) 16 16] ++ (J j 14 37))))
abbrev sSlF_m (K N:List Int) (B V:List Int) (G:List Int):List Mb:= [((wA .u8 32 K),(27,(0,0))),((wA .u8 12 N),(28,(0,0))),((wA .u8 16 B),(22,(0,0))),((wA .u8 32 V),(27,(0,0))),((wA .u8 16 G),(22,(0,0))),((wA .u8 16 G),(5,(0,0)))]
def sSl6p_h (i:Nat):Hn:=if i=7 then⟨0,[(0,true),(1,true),(4,true),(2,false),(3,true),(5,false)],[],[0,1,2,3,4],[]⟩ else⟨0,[],[],[],[]⟩
def sSl6p_b (K N:List Int) (B V:List Int) (G:List Int) (j:Nat→Value):List Value:=([j 0,j 1,.slice none 0 0,.slice none 0 0,.pointer (some ⟨0,0,none⟩),.pointer (some ⟨1,0,none⟩)] ++ (J j 6 4 ++ ([.pointer (some ⟨2,0,none⟩),.pointer (some ⟨3,0,none⟩),.pointer (some ⟨4,0,none⟩),.slice (some ⟨5,0,none⟩) 16 16] ++ (J j 14 30 ++ ([.slice (some ⟨5,0,none⟩) 16 16,.slice none 0 0,.int .i64 0,.slice (some ⟨5,0,none⟩) 16 16,.slice (some ⟨4,0,none⟩) 16 16,.int .i64 ((Nat.min 16 16:Nat):Int),j 50])))))
theorem sSl6p_0 (K N:List Int) (B V:List Int) (G:List Int) (j:Nat→Value):evC (yty.en tabW3) sSl6p_h (cAt [1,1,1,1,1,1,0] (bdy Try.f20)) ⟨sSlE_s K N B V G j,sSlE_m K N B V G,True,[some (.agg (wA .u8 16 G))]⟩=some (.normal,⟨sSl6p_b K N B V G j,[((wA .u8 32 K),(27,(0,0))),((wA .u8 12 N),(28,(0,0))),((wA .u8 16 B),(22,(0,0))),((wA .u8 32 V),(27,(0,0))),((wA .u8 16 G),(22,(0,0))),((wA .u8 16 G),(5,(0,0)))],((((((True∧True)∧True)∧True)∧True)∧((((0:Int)≤0)∧True)∧0≤16∧16≤16))∧((0+Nat.min 16 16≤(wA .u8 16 []).size∧0+Nat.min 16 16≤(wA .u8 16 G).size)∧((wA .u8 16 G).extract 0 (0+Nat.min 16 16)).all (fun v=>v.oneCell')=true∧Calm.splice (wA .u8 16 []) 0 ((wA .u8 16 G).extract 0 (0+Nat.min 16 16))=(wA .u8 16 G))),[]⟩):=by kernel_rfl
theorem sSl6 (K N:List Int) (B V:List Int) (G:List Int) (j:Nat→Value) (hK:By K) (hN:By N) (hB:B=kyL K N 0 2) (hV:V=kyL K N 2 4) (hG:G=tagL B V N [] [])  {c0:Prop} {ch0:List (Option Value)}:Runs Try.prog (cAt [1,1,1,1,1,1,0] (bdy Try.f20)) ⟨sSlE_s K N B V G j,sSlE_m K N B V G,c0,ch0⟩ (fun e s=>e= .normal∧∃(j:Nat→Value) (c:Prop) (ch:List (Option Value)),s=⟨sSlF_s K N B V G j,sSlF_m K N B V G,c,ch⟩) 0:=by
  refine(runs_ev mixed _ (sSl6p_0 K N B V G j) ⟨⟨⟨⟨⟨⟨trivial,trivial⟩,trivial⟩,trivial⟩,trivial⟩,⟨⟨(by decide),trivial⟩,(by decide),(by decide)⟩⟩,spl_w (k:=16) rfl (by decide) (by decide) (fun i hi=>by rw[if_pos (by omega)];congr 1;omega)⟩).mono ?_
  rintro e s ⟨rfl,hs⟩
  refine⟨rfl,fun q=>s.tm.getD q undef,s.c,s.ch,?_⟩
  subst hs
  kernel_rfl
abbrev sSlG_s (K N:List Int) (B V:List Int) (G:List Int) (j:Nat→Value):List Value:=(J j 0 8 ++ ([.slice (some ⟨5,0,none⟩) 16 16,.int .i64 0] ++ (J j 10 41)))
abbrev sSlG_m (K N:List Int) (B V:List Int) (G:List Int):List Mb:= [((wA .u8 32 K),(27,(0,0))),((wA .u8 12 N),(28,(0,0))),((wA .u8 16 B),(22,(0,0))),((wA .u8 32 V),(27,(0,0))),((wA .u8 16 G),(22,(0,0))),((wA .u8 16 G),(5,(0,0)))]
def sSl7p_h (i:Nat):Hn:=⟨0,[],[],[],[]⟩
def sSl7p_b (K N:List Int) (B V:List Int) (G:List Int) (j:Nat→Value):List Value:=([j 0,j 1,.slice none 0 0,.slice none 0 0,.pointer (some ⟨0,0,none⟩),.pointer (some ⟨1,0,none⟩),j 6,j 7,.slice (some ⟨5,0,none⟩) 16 16,.int .i64 0,.pointer (some ⟨2,0,none⟩),.pointer (some ⟨3,0,none⟩),.pointer (some ⟨4,0,none⟩),.slice (some ⟨5,0,none⟩) 16 16] ++ (J j 14 36 ++ ([.slice (some ⟨5,0,none⟩) 16 16])))
theorem sSl7p_0 (K N:List Int) (B V:List Int) (G:List Int) (j:Nat→Value):evC (yty.en tabW3) sSl7p_h (cAt [1,1,1,1,1,1,1] (bdy Try.f20)) ⟨sSlF_s K N B V G j,sSlF_m K N B V G,True,[]⟩=some (.ret,⟨sSl7p_b K N B V G j,[((wA .u8 32 K),(27,(0,0))),((wA .u8 12 N),(28,(0,0))),((wA .u8 16 B),(22,(0,0))),((wA .u8 32 V),(27,(0,0))),((wA .u8 16 G),(22,(0,0))),((wA .u8 16 G),(5,(0,0)))],(((True∧True)∧True)∧True),[]⟩):=by kernel_rfl
theorem sSl7 (K N:List Int) (B V:List Int) (G:List Int) (j:Nat→Value) (hK:By K) (hN:By N) (hB:B=kyL K N 0 2) (hV:V=kyL K N 2 4) (hG:G=tagL B V N [] [])  {c0:Prop} {ch0:List (Option Value)}:Runs Try.prog (cAt [1,1,1,1,1,1,1] (bdy Try.f20)) ⟨sSlF_s K N B V G j,sSlF_m K N B V G,c0,ch0⟩ (fun e s=>e= .ret∧∃(j:Nat→Value) (c:Prop) (ch:List (Option Value)),s=⟨sSlG_s K N B V G j,sSlG_m K N B V G,c,ch⟩) 0:=by
  refine(runs_ev mixed _ (sSl7p_0 K N B V G j) ⟨⟨⟨trivial,trivial⟩,trivial⟩,trivial⟩).mono ?_
  rintro e s ⟨rfl,hs⟩
  refine⟨rfl,fun q=>s.tm.getD q undef,s.c,s.ch,?_⟩
  subst hs
  kernel_rfl
theorem sSlu (K N:List Int) (j:Nat→Value) (hK:By K) (hN:By N)  {c0:Prop} {ch0:List (Option Value)}:Runs Try.prog (cAt [] (bdy Try.f20)) ⟨sSlA_s K N j,sSlA_m K N,c0,ch0⟩ (fun e s=>e= .ret∧∃(j:Nat→Value) (c:Prop) (ch:List (Option Value)),((kyL (dL8 (wA .u8 32 K)) (dL8 (wA .u8 12 N)) 0 2)=kyL K N 0 2)∧((kyL (dL8 (wA .u8 32 K)) (dL8 (wA .u8 12 N)) 2 4)=kyL K N 2 4)∧((tagL (dL8 (wA .u8 16 (kyL (dL8 (wA .u8 32 K)) (dL8 (wA .u8 12 N)) 0 2))) (dL8 (wA .u8 32 (kyL (dL8 (wA .u8 32 K)) (dL8 (wA .u8 12 N)) 2 4))) (dL8 (wA .u8 12 N)) (bOf [((wA .u8 32 K),(27,(0,0))),((wA .u8 12 N),(28,(0,0))),((wA .u8 16 (kyL (dL8 (wA .u8 32 K)) (dL8 (wA .u8 12 N)) 0 2)),(22,(0,0))),((wA .u8 32 (kyL (dL8 (wA .u8 32 K)) (dL8 (wA .u8 12 N)) 2 4)),(27,(0,0)))] none 0) (bOf [((wA .u8 32 K),(27,(0,0))),((wA .u8 12 N),(28,(0,0))),((wA .u8 16 (kyL (dL8 (wA .u8 32 K)) (dL8 (wA .u8 12 N)) 0 2)),(22,(0,0))),((wA .u8 32 (kyL (dL8 (wA .u8 32 K)) (dL8 (wA .u8 12 N)) 2 4)),(27,(0,0)))] none 0))=tagL (kyL (dL8 (wA .u8 32 K)) (dL8 (wA .u8 12 N)) 0 2) (kyL (dL8 (wA .u8 32 K)) (dL8 (wA .u8 12 N)) 2 4) N [] [])∧s=⟨sSlG_s K N (kyL (dL8 (wA .u8 32 K)) (dL8 (wA .u8 12 N)) 0 2) (kyL (dL8 (wA .u8 32 K)) (dL8 (wA .u8 12 N)) 2 4) (tagL (dL8 (wA .u8 16 (kyL (dL8 (wA .u8 32 K)) (dL8 (wA .u8 12 N)) 0 2))) (dL8 (wA .u8 32 (kyL (dL8 (wA .u8 32 K)) (dL8 (wA .u8 12 N)) 2 4))) (dL8 (wA .u8 12 N)) (bOf [((wA .u8 32 K),(27,(0,0))),((wA .u8 12 N),(28,(0,0))),((wA .u8 16 (kyL (dL8 (wA .u8 32 K)) (dL8 (wA .u8 12 N)) 0 2)),(22,(0,0))),((wA .u8 32 (kyL (dL8 (wA .u8 32 K)) (dL8 (wA .u8 12 N)) 2 4)),(27,(0,0)))] none 0) (bOf [((wA .u8 32 K),(27,(0,0))),((wA .u8 12 N),(28,(0,0))),((wA .u8 16 (kyL (dL8 (wA .u8 32 K)) (dL8 (wA .u8 12 N)) 0 2)),(22,(0,0))),((wA .u8 32 (kyL (dL8 (wA .u8 32 K)) (dL8 (wA .u8 12 N)) 2 4)),(27,(0,0)))] none 0)) j,sSlG_m K N (kyL (dL8 (wA .u8 32 K)) (dL8 (wA .u8 12 N)) 0 2) (kyL (dL8 (wA .u8 32 K)) (dL8 (wA .u8 12 N)) 2 4) (tagL (dL8 (wA .u8 16 (kyL (dL8 (wA .u8 32 K)) (dL8 (wA .u8 12 N)) 0 2))) (dL8 (wA .u8 32 (kyL (dL8 (wA .u8 32 K)) (dL8 (wA .u8 12 N)) 2 4))) (dL8 (wA .u8 12 N)) (bOf [((wA .u8 32 K),(27,(0,0))),((wA .u8 12 N),(28,(0,0))),((wA .u8 16 (kyL (dL8 (wA .u8 32 K)) (dL8 (wA .u8 12 N)) 0 2)),(22,(0,0))),((wA .u8 32 (kyL (dL8 (wA .u8 32 K)) (dL8 (wA .u8 12 N)) 2 4)),(27,(0,0)))] none 0) (bOf [((wA .u8 32 K),(27,(0,0))),((wA .u8 12 N),(28,(0,0))),((wA .u8 16 (kyL (dL8 (wA .u8 32 K)) (dL8 (wA .u8 12 N)) 0 2)),(22,(0,0))),((wA .u8 32 (kyL (dL8 (wA .u8 32 K)) (dL8 (wA .u8 12 N)) 2 4)),(27,(0,0)))] none 0)),c,ch⟩) 0:=by
  rw[show(cAt [] (bdy Try.f20))=(.seq (cAt [0] (bdy Try.f20)) (.seq (cAt [1,0] (bdy Try.f20)) (.seq (cAt [1,1,0] (bdy Try.f20)) (.seq (cAt [1,1,1,0] (bdy Try.f20)) (.seq (cAt [1,1,1,1,0] (bdy Try.f20)) (.seq (cAt [1,1,1,1,1,0] (bdy Try.f20)) (.seq (cAt [1,1,1,1,1,1,0] (bdy Try.f20)) (cAt [1,1,1,1,1,1,1] (bdy Try.f20))))))))) from by kernel_rfl]
  refine runs_seq (sSl0 K N j hK hN ) (fun s hh=> ?_) (fun e s hne hh=>absurd hh.1 hne)
  obtain⟨_,j,c,ch,rfl⟩:=hh
  refine runs_seq (sSl1 K N j hK hN ) (fun s hh=> ?_) (fun e s hne hh=>absurd hh.1 hne)
  obtain⟨_,j,c,ch,rfl⟩:=hh
  refine runs_seq (sSl2 K N j hK hN ) (fun s hh=> ?_) (fun e s hne hh=>absurd hh.1 hne)
  obtain⟨_,j,c,ch,f2_2,f2_3,rfl⟩:=hh
  refine runs_seq (sSl3 K N (kyL (dL8 (wA .u8 32 K)) (dL8 (wA .u8 12 N)) 0 2) (kyL (dL8 (wA .u8 32 K)) (dL8 (wA .u8 12 N)) 2 4) j hK hN f2_2 f2_3 ) (fun s hh=> ?_) (fun e s hne hh=>absurd hh.1 hne)
  obtain⟨_,j,c,ch,f3_4,rfl⟩:=hh
  refine runs_seq (sSl4 K N (kyL (dL8 (wA .u8 32 K)) (dL8 (wA .u8 12 N)) 0 2) (kyL (dL8 (wA .u8 32 K)) (dL8 (wA .u8 12 N)) 2 4) (tagL (dL8 (wA .u8 16 (kyL (dL8 (wA .u8 32 K)) (dL8 (wA .u8 12 N)) 0 2))) (dL8 (wA .u8 32 (kyL (dL8 (wA .u8 32 K)) (dL8 (wA .u8 12 N)) 2 4))) (dL8 (wA .u8 12 N)) (bOf [((wA .u8 32 K),(27,(0,0))),((wA .u8 12 N),(28,(0,0))),((wA .u8 16 (kyL (dL8 (wA .u8 32 K)) (dL8 (wA .u8 12 N)) 0 2)),(22,(0,0))),((wA .u8 32 (kyL (dL8 (wA .u8 32 K)) (dL8 (wA .u8 12 N)) 2 4)),(27,(0,0)))] none 0) (bOf [((wA .u8 32 K),(27,(0,0))),((wA .u8 12 N),(28,(0,0))),((wA .u8 16 (kyL (dL8 (wA .u8 32 K)) (dL8 (wA .u8 12 N)) 0 2)),(22,(0,0))),((wA .u8 32 (kyL (dL8 (wA .u8 32 K)) (dL8 (wA .u8 12 N)) 2 4)),(27,(0,0)))] none 0)) j hK hN f2_2 f2_3 f3_4 ) (fun s hh=> ?_) (fun e s hne hh=>absurd hh.1 hne)
  obtain⟨_,j,c,ch,rfl⟩:=hh
  refine runs_seq (sSl5 K N (kyL (dL8 (wA .u8 32 K)) (dL8 (wA .u8 12 N)) 0 2) (kyL (dL8 (wA .u8 32 K)) (dL8 (wA .u8 12 N)) 2 4) (tagL (dL8 (wA .u8 16 (kyL (dL8 (wA .u8 32 K)) (dL8 (wA .u8 12 N)) 0 2))) (dL8 (wA .u8 32 (kyL (dL8 (wA .u8 32 K)) (dL8 (wA .u8 12 N)) 2 4))) (dL8 (wA .u8 12 N)) (bOf [((wA .u8 32 K),(27,(0,0))),((wA .u8 12 N),(28,(0,0))),((wA .u8 16 (kyL (dL8 (wA .u8 32 K)) (dL8 (wA .u8 12 N)) 0 2)),(22,(0,0))),((wA .u8 32 (kyL (dL8 (wA .u8 32 K)) (dL8 (wA .u8 12 N)) 2 4)),(27,(0,0)))] none 0) (bOf [((wA .u8 32 K),(27,(0,0))),((wA .u8 12 N),(28,(0,0))),((wA .u8 16 (kyL (dL8 (wA .u8 32 K)) (dL8 (wA .u8 12 N)) 0 2)),(22,(0,0))),((wA .u8 32 (kyL (dL8 (wA .u8 32 K)) (dL8 (wA .u8 12 N)) 2 4)),(27,(0,0)))] none 0)) j hK hN f2_2 f2_3 f3_4 ) (fun s hh=> ?_) (fun e s hne hh=>absurd hh.1 hne)
  obtain⟨_,j,c,ch,rfl⟩:=hh
  refine runs_seq (sSl6 K N (kyL (dL8 (wA .u8 32 K)) (dL8 (wA .u8 12 N)) 0 2) (kyL (dL8 (wA .u8 32 K)) (dL8 (wA .u8 12 N)) 2 4) (tagL (dL8 (wA .u8 16 (kyL (dL8 (wA .u8 32 K)) (dL8 (wA .u8 12 N)) 0 2))) (dL8 (wA .u8 32 (kyL (dL8 (wA .u8 32 K)) (dL8 (wA .u8 12 N)) 2 4))) (dL8 (wA .u8 12 N)) (bOf [((wA .u8 32 K),(27,(0,0))),((wA .u8 12 N),(28,(0,0))),((wA .u8 16 (kyL (dL8 (wA .u8 32 K)) (dL8 (wA .u8 12 N)) 0 2)),(22,(0,0))),((wA .u8 32 (kyL (dL8 (wA .u8 32 K)) (dL8 (wA .u8 12 N)) 2 4)),(27,(0,0)))] none 0) (bOf [((wA .u8 32 K),(27,(0,0))),((wA .u8 12 N),(28,(0,0))),((wA .u8 16 (kyL (dL8 (wA .u8 32 K)) (dL8 (wA .u8 12 N)) 0 2)),(22,(0,0))),((wA .u8 32 (kyL (dL8 (wA .u8 32 K)) (dL8 (wA .u8 12 N)) 2 4)),(27,(0,0)))] none 0)) j hK hN f2_2 f2_3 f3_4 ) (fun s hh=> ?_) (fun e s hne hh=>absurd hh.1 hne)
  obtain⟨_,j,c,ch,rfl⟩:=hh
  refine(sSl7 K N (kyL (dL8 (wA .u8 32 K)) (dL8 (wA .u8 12 N)) 0 2) (kyL (dL8 (wA .u8 32 K)) (dL8 (wA .u8 12 N)) 2 4) (tagL (dL8 (wA .u8 16 (kyL (dL8 (wA .u8 32 K)) (dL8 (wA .u8 12 N)) 0 2))) (dL8 (wA .u8 32 (kyL (dL8 (wA .u8 32 K)) (dL8 (wA .u8 12 N)) 2 4))) (dL8 (wA .u8 12 N)) (bOf [((wA .u8 32 K),(27,(0,0))),((wA .u8 12 N),(28,(0,0))),((wA .u8 16 (kyL (dL8 (wA .u8 32 K)) (dL8 (wA .u8 12 N)) 0 2)),(22,(0,0))),((wA .u8 32 (kyL (dL8 (wA .u8 32 K)) (dL8 (wA .u8 12 N)) 2 4)),(27,(0,0)))] none 0) (bOf [((wA .u8 32 K),(27,(0,0))),((wA .u8 12 N),(28,(0,0))),((wA .u8 16 (kyL (dL8 (wA .u8 32 K)) (dL8 (wA .u8 12 N)) 0 2)),(22,(0,0))),((wA .u8 32 (kyL (dL8 (wA .u8 32 K)) (dL8 (wA .u8 12 N)) 2 4)),(27,(0,0)))] none 0)) j hK hN f2_2 f2_3 f3_4 ).mono ?_
  rintro e s ⟨rfl,j,c,ch,rfl⟩
  exact⟨rfl,j,c,ch,f2_2,f2_3,f3_4,rfl⟩
def sealL (K N:List Int):List Int:=tagL (kyL K N 0 2) (kyL K N 2 4) N [] []
theorem sSl_c (K N:List Int) (hK:By K) (hN:By N) (mem:List Mb) (ng:Nat):MakesT Try.prog 20 mem [.agg (wA .u8 32 K),.agg (wA .u8 12 N),.slice none 0 0,.slice none 0 0] .u8 16 (sealL K N) 5 (.int .i64 0) ng:=fun w β _ _=>
  makesT_runs (fk:=0) (mem:= []) Try.func20 (c:=bdy Try.f20) (by kernel_rfl) ⟨rfl,by decide⟩ (args:= [.agg (wA .u8 32 K),.agg (wA .u8 12 N),.slice none 0 0,.slice none 0 0]) (by kernel_rfl) (r:=8) (r2:=9) (by kernel_rfl) (sSlu K N (fun _=>undef) hK hN) (fun e s h=>by
    obtain⟨rfl,j,c,ch,hB,hV,hG,rfl⟩:=h
    refine⟨rfl,rfl,rfl,5,16,by decide,by rw[sealL,tagL_len];decide,rfl,?_⟩
    rw[← (show _=sealL K N from hG.trans (by rw[hB,hV];rfl))]
    rfl) w β (fun i x hx=>by simp at hx) (fun i hi=>by simp at hi)
end Go.Proofs.Ytnadkbniljejfaa

set_option linter.unusedSimpArgs false
set_option linter.unusedVariables false
/-! siv: nothing opened. -/
namespace Go.Proofs.Ytnadkbniljejfaa
open Go.RowKit Go.Ev
theorem isBL_w (n:Nat) (L:List Int):isBL n (wA .u8 n L):=⟨(List.range n).map fun i=>L.getD i 0,by simp,by simp[wA,Function.comp_def]⟩
abbrev sOpA_s (K N S:List Int) (cp:Nat) (t:Tq) (j:Nat→Value):List Value:=([.agg (wA .u8 32 K),.agg (wA .u8 12 N),.slice none 0 0,.slice (some ⟨0,0,none⟩) 16 cp] ++ (JU 55))
abbrev sOpA_m (K N S:List Int) (cp:Nat) (t:Tq):List Mb:= [((wA .u8 cp S),t)]
abbrev sOpB_s (K N S:List Int) (cp:Nat) (t:Tq) (j:Nat→Value):List Value:=([j 0,j 1,.slice none 0 0,.slice (some ⟨0,0,none⟩) 16 cp,.pointer (some ⟨1,0,none⟩),.pointer (some ⟨2,0,none⟩)] ++ (J j 6 53))
abbrev sOpB_m (K N S:List Int) (cp:Nat) (t:Tq):List Mb:= [((wA .u8 cp S),t),((wA .u8 32 K),(27,(0,0))),((wA .u8 12 N),(28,(0,0)))]
def sOp0p_h (i:Nat):Hn:=if i=9 then⟨8,[],[],[],[]⟩ else if i=10 then⟨8,[],[],[],[]⟩ else⟨0,[],[],[],[]⟩
def sOp0p_b (K N S:List Int) (cp:Nat) (t:Tq) (j:Nat→Value):List Value:=([.agg (wA .u8 32 K),.agg (wA .u8 12 N),.slice none 0 0,.slice (some ⟨0,0,none⟩) 16 cp,.pointer (some ⟨1,0,none⟩),.pointer (some ⟨2,0,none⟩),undef,undef,.slice none 0 0,.int .i64 0] ++ (JU 49))
theorem sOp0p_0 (K N S:List Int) (cp:Nat) (t:Tq) (j:Nat→Value):evC (yty.enf tabW3 1) sOp0p_h (cAt [0] (bdy Try.f22)) ⟨sOpA_s K N S cp t j,sOpA_m K N S cp t,True,[]⟩=some (.normal,⟨sOp0p_b K N S cp t j,[((wA .u8 cp S),t),((wA .u8 32 K),(27,(0,0))),((wA .u8 12 N),(28,(0,0)))],((True∧True)∧True),[]⟩):=by kernel_rfl
theorem sOp0 (K N S:List Int) (cp:Nat) (t:Tq) (j:Nat→Value) (hK:By K) (hN:By N) (hS:By S) (hc:16≤cp) (hT:S=sealL K N)  {c0:Prop} {ch0:List (Option Value)}:Runs Try.prog (cAt [0] (bdy Try.f22)) ⟨sOpA_s K N S cp t j,sOpA_m K N S cp t,c0,ch0⟩ (fun e s=>e= .normal∧∃(j:Nat→Value) (c:Prop) (ch:List (Option Value)),s=⟨sOpB_s K N S cp t j,sOpB_m K N S cp t,c,ch⟩) 1:=by
  refine(runs_ev mixed _ (sOp0p_0 K N S cp t j) ⟨⟨trivial,trivial⟩,trivial⟩).mono ?_
  rintro e s ⟨rfl,hs⟩
  refine⟨rfl,fun q=>s.tm.getD q undef,s.c,s.ch,?_⟩
  subst hs
  kernel_rfl
def sOp1p_h (i:Nat):Hn:=if i=9 then⟨8,[],[],[],[]⟩ else if i=10 then⟨8,[],[],[],[]⟩ else⟨0,[],[],[],[]⟩
def sOp1p_b (K N S:List Int) (cp:Nat) (t:Tq) (j:Nat→Value):List Value:=([j 0,j 1,.slice none 0 0,.slice (some ⟨0,0,none⟩) 16 cp,.pointer (some ⟨1,0,none⟩),.pointer (some ⟨2,0,none⟩)] ++ (J j 6 9 ++ ([.slice none 0 0,.int .i64 0,.bool false,.bool false,.slice (some ⟨0,0,none⟩) 16 cp,.int .i64 16,.bool false,.bool false] ++ (J j 23 36))))
theorem sOp1p_0 (K N S:List Int) (cp:Nat) (t:Tq) (j:Nat→Value):evC (yty.enf tabW3 1) sOp1p_h (cAt [1,0] (bdy Try.f22)) ⟨sOpB_s K N S cp t j,sOpB_m K N S cp t,True,[]⟩=some (.normal,⟨sOp1p_b K N S cp t j,[((wA .u8 cp S),t),((wA .u8 32 K),(27,(0,0))),((wA .u8 12 N),(28,(0,0)))],((((((((True∧True)∧True)∧True)∧True)∧True)∧True)∧True)∧True),[]⟩):=by kernel_rfl
theorem sOp1 (K N S:List Int) (cp:Nat) (t:Tq) (j:Nat→Value) (hK:By K) (hN:By N) (hS:By S) (hc:16≤cp) (hT:S=sealL K N)  {c0:Prop} {ch0:List (Option Value)}:Runs Try.prog (cAt [1,0] (bdy Try.f22)) ⟨sOpB_s K N S cp t j,sOpB_m K N S cp t,c0,ch0⟩ (fun e s=>e= .normal∧∃(j:Nat→Value) (c:Prop) (ch:List (Option Value)),s=⟨sOpB_s K N S cp t j,sOpB_m K N S cp t,c,ch⟩) 1:=by
  refine(runs_ev mixed _ (sOp1p_0 K N S cp t j) ⟨⟨⟨⟨⟨⟨⟨⟨trivial,trivial⟩,trivial⟩,trivial⟩,trivial⟩,trivial⟩,trivial⟩,trivial⟩,trivial⟩).mono ?_
  rintro e s ⟨rfl,hs⟩
  refine⟨rfl,fun q=>s.tm.getD q undef,s.c,s.ch,?_⟩
  subst hs
  kernel_rfl
def sOp2p_h (i:Nat):Hn:=if i=9 then⟨8,[],[],[],[]⟩ else if i=10 then⟨8,[],[],[],[]⟩ else⟨0,[],[],[],[]⟩
def sOp2p_b (K N S:List Int) (cp:Nat) (t:Tq) (j:Nat→Value):List Value:=([j 0,j 1,.slice none 0 0,.slice (some ⟨0,0,none⟩) 16 cp,.pointer (some ⟨1,0,none⟩),.pointer (some ⟨2,0,none⟩)] ++ (J j 6 17 ++ ([.slice (some ⟨0,0,none⟩) 16 cp,.int .i64 16,.bool false] ++ (J j 26 33))))
theorem sOp2p_0 (K N S:List Int) (cp:Nat) (t:Tq) (j:Nat→Value):evC (yty.enf tabW3 1) sOp2p_h (cAt [1,1,0] (bdy Try.f22)) ⟨sOpB_s K N S cp t j,sOpB_m K N S cp t,True,[]⟩=some (.normal,⟨sOp2p_b K N S cp t j,[((wA .u8 cp S),t),((wA .u8 32 K),(27,(0,0))),((wA .u8 12 N),(28,(0,0)))],(((True∧True)∧True)∧True),[]⟩):=by kernel_rfl
theorem sOp2 (K N S:List Int) (cp:Nat) (t:Tq) (j:Nat→Value) (hK:By K) (hN:By N) (hS:By S) (hc:16≤cp) (hT:S=sealL K N)  {c0:Prop} {ch0:List (Option Value)}:Runs Try.prog (cAt [1,1,0] (bdy Try.f22)) ⟨sOpB_s K N S cp t j,sOpB_m K N S cp t,c0,ch0⟩ (fun e s=>e= .normal∧∃(j:Nat→Value) (c:Prop) (ch:List (Option Value)),s=⟨sOpB_s K N S cp t j,sOpB_m K N S cp t,c,ch⟩) 1:=by
  refine(runs_ev mixed _ (sOp2p_0 K N S cp t j) ⟨⟨⟨trivial,trivial⟩,trivial⟩,trivial⟩).mono ?_
  rintro e s ⟨rfl,hs⟩
  refine⟨rfl,fun q=>s.tm.getD q undef,s.c,s.ch,?_⟩
  subst hs
  kernel_rfl
abbrev sOpC_s (K N S:List Int) (cp:Nat) (t:Tq) (B V:List Int) (j:Nat→Value):List Value:=([j 0,j 1,.slice none 0 0,.slice (some ⟨0,0,none⟩) 16 cp,.pointer (some ⟨1,0,none⟩),.pointer (some ⟨2,0,none⟩)] ++ (J j 6 4 ++ ([.pointer (some ⟨3,0,none⟩),.pointer (some ⟨4,0,none⟩)] ++ (J j 12 47))))
abbrev sOpC_m (K N S:List Int) (cp:Nat) (t:Tq) (B V:List Int):List Mb:= [((wA .u8 cp S),t),((wA .u8 32 K),(27,(0,0))),((wA .u8 12 N),(28,(0,0))),((wA .u8 16 B),(22,(0,0))),((wA .u8 32 V),(27,(0,0)))]
def sOp3p_h (i:Nat):Hn:=if i=9 then⟨8,[],[],[],[]⟩ else if i=10 then⟨8,[],[],[],[]⟩ else⟨0,[],[],[],[]⟩
def sOp3p_b (K N S:List Int) (cp:Nat) (t:Tq) (j:Nat→Value):List Value:=([j 0,j 1,.slice none 0 0,.slice (some ⟨0,0,none⟩) 16 cp,.pointer (some ⟨1,0,none⟩),.pointer (some ⟨2,0,none⟩)] ++ (J j 6 4 ++ ([.pointer (some ⟨3,0,none⟩),.pointer (some ⟨4,0,none⟩)] ++ (J j 12 14 ++ ([.tuple #[.agg (wA .u8 16 (kyL (dL8 (wA .u8 32 K)) (dL8 (wA .u8 12 N)) 0 2)),.agg (wA .u8 32 (kyL (dL8 (wA .u8 32 K)) (dL8 (wA .u8 12 N)) 2 4))],.agg (wA .u8 32 K),.agg (wA .u8 12 N),.tuple #[.agg (wA .u8 16 (kyL (dL8 (wA .u8 32 K)) (dL8 (wA .u8 12 N)) 0 2)),.agg (wA .u8 32 (kyL (dL8 (wA .u8 32 K)) (dL8 (wA .u8 12 N)) 2 4))],.agg (wA .u8 16 (kyL (dL8 (wA .u8 32 K)) (dL8 (wA .u8 12 N)) 0 2)),.agg (wA .u8 32 (kyL (dL8 (wA .u8 32 K)) (dL8 (wA .u8 12 N)) 2 4))] ++ (J j 32 27))))))
theorem sOp3p_0 (K N S:List Int) (cp:Nat) (t:Tq) (j:Nat→Value):evC (yty.enf tabW3 1) sOp3p_h (cAt [1,1,1,0] (bdy Try.f22)) ⟨sOpB_s K N S cp t j,sOpB_m K N S cp t,True,[]⟩=some (.normal,⟨sOp3p_b K N S cp t j,[((wA .u8 cp S),t),((wA .u8 32 K),(27,(0,0))),((wA .u8 12 N),(28,(0,0))),((wA .u8 16 (kyL (dL8 (wA .u8 32 K)) (dL8 (wA .u8 12 N)) 0 2)),(22,(0,0))),((wA .u8 32 (kyL (dL8 (wA .u8 32 K)) (dL8 (wA .u8 12 N)) 2 4)),(27,(0,0)))],((((((((True∧True)∧True)∧(((wA .u8 32 K)=wA .u8 32 (dL8 (wA .u8 32 K))∧By (dL8 (wA .u8 32 K)))∧((wA .u8 12 N)=wA .u8 12 (dL8 (wA .u8 12 N))∧By (dL8 (wA .u8 12 N)))))∧True)∧True)∧True)∧((wA .u8 16 (kyL (dL8 (wA .u8 32 K)) (dL8 (wA .u8 12 N)) 0 2)).all (fun v=>v.oneCell')=true))∧((wA .u8 32 (kyL (dL8 (wA .u8 32 K)) (dL8 (wA .u8 12 N)) 2 4)).all (fun v=>v.oneCell')=true)),[]⟩):=by kernel_rfl
theorem sOp3 (K N S:List Int) (cp:Nat) (t:Tq) (j:Nat→Value) (hK:By K) (hN:By N) (hS:By S) (hc:16≤cp) (hT:S=sealL K N)  {c0:Prop} {ch0:List (Option Value)}:Runs Try.prog (cAt [1,1,1,0] (bdy Try.f22)) ⟨sOpB_s K N S cp t j,sOpB_m K N S cp t,c0,ch0⟩ (fun e s=>e= .normal∧∃(j:Nat→Value) (c:Prop) (ch:List (Option Value)),((kyL (dL8 (wA .u8 32 K)) (dL8 (wA .u8 12 N)) 0 2)=kyL K N 0 2)∧((kyL (dL8 (wA .u8 32 K)) (dL8 (wA .u8 12 N)) 2 4)=kyL K N 2 4)∧s=⟨sOpC_s K N S cp t (kyL (dL8 (wA .u8 32 K)) (dL8 (wA .u8 12 N)) 0 2) (kyL (dL8 (wA .u8 32 K)) (dL8 (wA .u8 12 N)) 2 4) j,sOpC_m K N S cp t (kyL (dL8 (wA .u8 32 K)) (dL8 (wA .u8 12 N)) 0 2) (kyL (dL8 (wA .u8 32 K)) (dL8 (wA .u8 12 N)) 2 4),c,ch⟩) 1:=by
  refine(runs_ev mixed _ (sOp3p_0 K N S cp t j) ⟨⟨⟨⟨⟨⟨⟨⟨trivial,trivial⟩,trivial⟩,⟨dq hK,dq hN⟩⟩,trivial⟩,trivial⟩,trivial⟩,(wA_one _ _ _)⟩,(wA_one _ _ _)⟩).mono ?_
  rintro e s ⟨rfl,hs⟩
  refine⟨rfl,fun q=>s.tm.getD q undef,s.c,s.ch,kyL_w _ _ _ _,kyL_w _ _ _ _,?_⟩
  subst hs
  kernel_rfl
abbrev sOpD_s (K N S:List Int) (cp:Nat) (t:Tq) (B V:List Int) (j:Nat→Value):List Value:=([j 0,j 1,.slice none 0 0,.slice (some ⟨0,0,none⟩) 16 cp,.pointer (some ⟨1,0,none⟩),.pointer (some ⟨2,0,none⟩)] ++ (J j 6 4 ++ ([.pointer (some ⟨3,0,none⟩),.pointer (some ⟨4,0,none⟩),.int .i64 0] ++ (J j 13 46))))
abbrev sOpD_m (K N S:List Int) (cp:Nat) (t:Tq) (B V:List Int):List Mb:= [((wA .u8 cp S),t),((wA .u8 32 K),(27,(0,0))),((wA .u8 12 N),(28,(0,0))),((wA .u8 16 B),(22,(0,0))),((wA .u8 32 V),(27,(0,0)))]
def sOp4p_h (i:Nat):Hn:=if i=9 then⟨8,[],[],[],[]⟩ else if i=10 then⟨8,[],[],[],[]⟩ else⟨0,[],[],[],[]⟩
def sOp4p_b (K N S:List Int) (cp:Nat) (t:Tq) (B V:List Int) (j:Nat→Value):List Value:=([j 0,j 1,.slice none 0 0,.slice (some ⟨0,0,none⟩) 16 cp,.pointer (some ⟨1,0,none⟩),.pointer (some ⟨2,0,none⟩)] ++ (J j 6 4 ++ ([.pointer (some ⟨3,0,none⟩),.pointer (some ⟨4,0,none⟩),.int .i64 0] ++ (J j 13 19 ++ ([.slice (some ⟨0,0,none⟩) 16 cp,.int .i64 16,.int .i64 0] ++ (J j 35 24))))))
theorem sOp4p_0 (K N S:List Int) (cp:Nat) (t:Tq) (B V:List Int) (j:Nat→Value):evC (yty.enf tabW3 1) sOp4p_h (cAt [1,1,1,1,0] (bdy Try.f22)) ⟨sOpC_s K N S cp t B V j,sOpC_m K N S cp t B V,True,[]⟩=some (.normal,⟨sOp4p_b K N S cp t B V j,[((wA .u8 cp S),t),((wA .u8 32 K),(27,(0,0))),((wA .u8 12 N),(28,(0,0))),((wA .u8 16 B),(22,(0,0))),((wA .u8 32 V),(27,(0,0)))],((((True∧True)∧True)∧True)∧True),[]⟩):=by kernel_rfl
theorem sOp4 (K N S:List Int) (cp:Nat) (t:Tq) (B V:List Int) (j:Nat→Value) (hK:By K) (hN:By N) (hS:By S) (hc:16≤cp) (hT:S=sealL K N) (hB:B=kyL K N 0 2) (hV:V=kyL K N 2 4)  {c0:Prop} {ch0:List (Option Value)}:Runs Try.prog (cAt [1,1,1,1,0] (bdy Try.f22)) ⟨sOpC_s K N S cp t B V j,sOpC_m K N S cp t B V,c0,ch0⟩ (fun e s=>e= .normal∧∃(j:Nat→Value) (c:Prop) (ch:List (Option Value)),s=⟨sOpD_s K N S cp t B V j,sOpD_m K N S cp t B V,c,ch⟩) 1:=by
  refine(runs_ev mixed _ (sOp4p_0 K N S cp t B V j) ⟨⟨⟨⟨trivial,trivial⟩,trivial⟩,trivial⟩,trivial⟩).mono ?_
  rintro e s ⟨rfl,hs⟩
  refine⟨rfl,fun q=>s.tm.getD q undef,s.c,s.ch,?_⟩
  subst hs
  kernel_rfl
abbrev sOpE_s (K N S:List Int) (cp:Nat) (t:Tq) (B V:List Int) (j:Nat→Value):List Value:=([j 0,j 1,.slice none 0 0,.slice (some ⟨0,0,none⟩) 16 cp,.pointer (some ⟨1,0,none⟩),.pointer (some ⟨2,0,none⟩)] ++ (J j 6 4 ++ ([.pointer (some ⟨3,0,none⟩),.pointer (some ⟨4,0,none⟩),.int .i64 0,.pointer (some ⟨5,0,none⟩)] ++ (J j 14 45))))
abbrev sOpE_m (K N S:List Int) (cp:Nat) (t:Tq) (B V:List Int):List Mb:= [((wA .u8 cp S),t),((wA .u8 32 K),(27,(0,0))),((wA .u8 12 N),(28,(0,0))),((wA .u8 16 B),(22,(0,0))),((wA .u8 32 V),(27,(0,0))),((wA .u8 16 S),(22,(0,0)))]
theorem ext16 {S:List Int} {cp p:Nat} (h:16≤cp) (hp:p=0):(wA .u8 cp S).extract (p) (p+16)=wA .u8 16 S∧16=(wA .u8 16 S).size:=by
  subst hp
  refine⟨wA_ext (by rw[Array.size_extract,wA_size];omega) (fun i hi=> ?_),(wA_size _ _ _).symm⟩
  rw[Array.getElem?_extract_of_lt (by rw[wA_size];omega),← wA_at (k:= .u8) (n:=cp) (by omega)]
  rw[Array.getElem?_eq_getElem (by rw[wA_size];omega)]
  simp only[Nat.zero_add]
def sOp5p_m0 (K N S:List Int) (cp:Nat) (t:Tq) (B V:List Int) (j:Nat→Value):List Value:=([j 0,j 1,.slice none 0 0,.slice (some ⟨0,0,none⟩) 16 cp,.pointer (some ⟨1,0,none⟩),.pointer (some ⟨2,0,none⟩)] ++ (J j 6 4 ++ ([.pointer (some ⟨3,0,none⟩),.pointer (some ⟨4,0,none⟩),.int .i64 0] ++ (J j 13 22 ++ ([.slice (some ⟨0,0,none⟩) 16 cp,.int .i64 0,.slice (some ⟨0,(if cp=0 then 0 else 0+0*1),none⟩) 16 cp] ++ (J j 38 21))))))
theorem sOp5p_0 (K N S:List Int) (cp:Nat) (t:Tq) (B V:List Int) (j:Nat→Value):evL (yty.enf tabW3 1) (oT (cAt [1,1,1,1,1,0] (bdy Try.f22))) ((oT (cAt [1,1,1,1,1,0] (bdy Try.f22))).toList.take 3) ⟨sOpD_s K N S cp t B V j,sOpD_m K N S cp t B V,True,[]⟩=some ⟨sOp5p_m0 K N S cp t B V j,[((wA .u8 cp S),t),((wA .u8 32 K),(27,(0,0))),((wA .u8 12 N),(28,(0,0))),((wA .u8 16 B),(22,(0,0))),((wA .u8 32 V),(27,(0,0)))],(((True∧True)∧True)∧((((0:Int)≤0)∧True)∧0≤16∧16≤cp)),[]⟩:=by kernel_rfl
def sOp5p_b (K N S:List Int) (cp:Nat) (t:Tq) (B V:List Int) (j:Nat→Value):List Value:=([j 0,j 1,.slice none 0 0,.slice (some ⟨0,0,none⟩) 16 cp,.pointer (some ⟨1,0,none⟩),.pointer (some ⟨2,0,none⟩)] ++ (J j 6 4 ++ ([.pointer (some ⟨3,0,none⟩),.pointer (some ⟨4,0,none⟩),.int .i64 0,.pointer (some ⟨5,0,none⟩)] ++ (J j 14 21 ++ ([.slice (some ⟨0,0,none⟩) 16 cp,.int .i64 0,.slice (some ⟨0,(if cp=0 then 0 else 0+0*1),none⟩) 16 cp,.pointer (some ⟨0,(if cp=0 then 0 else 0+0*1),none⟩),.agg (wA .u8 16 S)] ++ (J j 40 19))))))
theorem sOp5p_e (K N S:List Int) (cp:Nat) (t:Tq) (B V:List Int) (j:Nat→Value):evL (yty.enf tabW3 1) (oT (cAt [1,1,1,1,1,0] (bdy Try.f22))) ((oT (cAt [1,1,1,1,1,0] (bdy Try.f22))).toList.drop 4) ⟨putS (sOp5p_m0 K N S cp t B V j) (some 38) (.pointer (some ⟨0,(if cp=0 then 0 else 0+0*1),none⟩)),[((wA .u8 cp S),t),((wA .u8 32 K),(27,(0,0))),((wA .u8 12 N),(28,(0,0))),((wA .u8 16 B),(22,(0,0))),((wA .u8 32 V),(27,(0,0)))],True,[some (.tuple #[.agg (wA .u8 16 S)])]⟩=some ⟨sOp5p_b K N S cp t B V j,[((wA .u8 cp S),t),((wA .u8 32 K),(27,(0,0))),((wA .u8 12 N),(28,(0,0))),((wA .u8 16 B),(22,(0,0))),((wA .u8 32 V),(27,(0,0))),((wA .u8 16 S),(22,(0,0)))],((True∧((wA .u8 cp S).extract ((if cp=0 then 0 else 0+0*1)) ((if cp=0 then 0 else 0+0*1)+16)=(wA .u8 16 S)∧16=(wA .u8 16 S).size))∧((wA .u8 16 S).all (fun v=>v.oneCell')=true)),[]⟩:=by kernel_rfl
theorem sOp5 (K N S:List Int) (cp:Nat) (t:Tq) (B V:List Int) (j:Nat→Value) (hK:By K) (hN:By N) (hS:By S) (hc:16≤cp) (hT:S=sealL K N) (hB:B=kyL K N 0 2) (hV:V=kyL K N 2 4)  {c0:Prop} {ch0:List (Option Value)}:Runs Try.prog (cAt [1,1,1,1,1,0] (bdy Try.f22)) ⟨sOpD_s K N S cp t B V j,sOpD_m K N S cp t B V,c0,ch0⟩ (fun e s=>e= .normal∧∃(j:Nat→Value) (c:Prop) (ch:List (Option Value)),s=⟨sOpE_s K N S cp t B V j,sOpE_m K N S cp t B V,c,ch⟩) 1:=by
  refine runs_region (K:=fun s=>∃(j:Nat→Value) (c:Prop) (ch:List (Option Value)),s=⟨sOpE_s K N S cp t B V j,sOpE_m K N S cp t B V,c,ch⟩) (by kernel_rfl) ?_
  refine runsL_s2aS (E:=(yty.enf tabW3 1)) (d:=38) (n:=16) (x:=37) (i:=0) (p:=(if cp=0 then 0 else 0+0*1)) (l:=16) (cp:=cp) 3 (sOp5p_0 K N S cp t B V j) ⟨⟨⟨trivial,trivial⟩,trivial⟩,(by refine⟨⟨?_,?_⟩,?_,?_⟩<;>first|trivial|omega)⟩ (by kernel_rfl) (by kernel_rfl) Try.underlying22 (by decide) (fun c ch=> ?_)
  refine(runsL_ev _ (sOp5p_e K N S cp t B V j) ⟨⟨trivial,ext16 hc (by split<;>rfl)⟩,(wA_one _ _ _)⟩).mono ?_
  rintro s hs
  refine⟨fun q=>s.tm.getD q undef,s.c,s.ch,?_⟩
  subst hs
  kernel_rfl
abbrev sOpF_s (K N S:List Int) (cp:Nat) (t:Tq) (B V:List Int) (j:Nat→Value):List Value:=([j 0,j 1,.slice none 0 0,.slice (some ⟨0,0,none⟩) 16 cp,.pointer (some ⟨1,0,none⟩),.pointer (some ⟨2,0,none⟩)] ++ (J j 6 4 ++ ([.pointer (some ⟨3,0,none⟩),.pointer (some ⟨4,0,none⟩),.int .i64 0,.pointer (some ⟨5,0,none⟩),.slice (some ⟨6,0,none⟩) 0 0] ++ (J j 15 44))))
abbrev sOpF_m (K N S:List Int) (cp:Nat) (t:Tq) (B V:List Int):List Mb:= [((wA .u8 cp S),t),((wA .u8 32 K),(27,(0,0))),((wA .u8 12 N),(28,(0,0))),((wA .u8 16 B),(22,(0,0))),((wA .u8 32 V),(27,(0,0))),((wA .u8 16 S),(22,(0,0))),((wA .u8 0 []),(5,(0,0)))]
def sOp6p_h (i:Nat):Hn:=if i=9 then⟨8,[],[],[],[]⟩ else if i=10 then⟨8,[],[],[],[]⟩ else⟨0,[],[],[],[]⟩
def sOp6p_b (K N S:List Int) (cp:Nat) (t:Tq) (B V:List Int) (j:Nat→Value):List Value:=([j 0,j 1,.slice none 0 0,.slice (some ⟨0,0,none⟩) 16 cp,.pointer (some ⟨1,0,none⟩),.pointer (some ⟨2,0,none⟩)] ++ (J j 6 4 ++ ([.pointer (some ⟨3,0,none⟩),.pointer (some ⟨4,0,none⟩),.int .i64 0,.pointer (some ⟨5,0,none⟩),.slice (some ⟨6,0,none⟩) 0 0] ++ (J j 15 25 ++ ([.int .i64 0,.slice (some ⟨6,0,none⟩) 0 0] ++ (J j 42 17))))))
theorem sOp6p_0 (K N S:List Int) (cp:Nat) (t:Tq) (B V:List Int) (j:Nat→Value):evC (yty.enf tabW3 1) sOp6p_h (cAt [1,1,1,1,1,1,0] (bdy Try.f22)) ⟨sOpE_s K N S cp t B V j,sOpE_m K N S cp t B V,True,[]⟩=some (.normal,⟨sOp6p_b K N S cp t B V j,[((wA .u8 cp S),t),((wA .u8 32 K),(27,(0,0))),((wA .u8 12 N),(28,(0,0))),((wA .u8 16 B),(22,(0,0))),((wA .u8 32 V),(27,(0,0))),((wA .u8 16 S),(22,(0,0))),((wA .u8 0 []),(5,(0,0)))],(((True∧True)∧((0:Int)≤0∧(0:Int)=0∧1*Int.toNat 0≤281474976710656∧Int.toNat 0≤9223372036854775807))∧True),[]⟩):=by kernel_rfl
theorem sOp6 (K N S:List Int) (cp:Nat) (t:Tq) (B V:List Int) (j:Nat→Value) (hK:By K) (hN:By N) (hS:By S) (hc:16≤cp) (hT:S=sealL K N) (hB:B=kyL K N 0 2) (hV:V=kyL K N 2 4)  {c0:Prop} {ch0:List (Option Value)}:Runs Try.prog (cAt [1,1,1,1,1,1,0] (bdy Try.f22)) ⟨sOpE_s K N S cp t B V j,sOpE_m K N S cp t B V,c0,ch0⟩ (fun e s=>e= .normal∧∃(j:Nat→Value) (c:Prop) (ch:List (Option Value)),s=⟨sOpF_s K N S cp t B V j,sOpF_m K N S cp t B V,c,ch⟩) 1:=by
  refine(runs_ev mixed _ (sOp6p_0 K N S cp t B V j) ⟨⟨⟨trivial,trivial⟩,⟨by decide,rfl,by decide,by decide⟩⟩,trivial⟩).mono ?_
  rintro e s ⟨rfl,hs⟩
  refine⟨rfl,fun q=>s.tm.getD q undef,s.c,s.ch,?_⟩
  subst hs
  kernel_rfl
def sOp7p_m (K N S:List Int) (cp:Nat) (t:Tq) (B V:List Int) (j:Nat→Value):List Value:=([j 0,j 1,.slice none 0 0,.slice (some ⟨0,0,none⟩) 16 cp,.pointer (some ⟨1,0,none⟩),.pointer (some ⟨2,0,none⟩)] ++ (J j 6 4 ++ ([.pointer (some ⟨3,0,none⟩),.pointer (some ⟨4,0,none⟩),.int .i64 0,.pointer (some ⟨5,0,none⟩),.slice (some ⟨6,0,none⟩) 0 0] ++ (J j 15 27 ++ ([.slice (some ⟨6,0,none⟩) 0 0,.slice (some ⟨0,0,none⟩) 16 cp,.int .i64 0,.slice (some ⟨0,(if cp=0 then 0 else 0+0*1),none⟩) 0 cp,.agg (wA .u8 32 V),.agg (wA .u8 16 S)] ++ (J j 48 11))))))
theorem sOp7p_0 (K N S:List Int) (cp:Nat) (t:Tq) (B V:List Int) (j:Nat→Value):evS (yty.enf tabW3 1) (oT (cAt [1,1,1,1,1,1,1,0] (bdy Try.f22))) [0,1,2,3,4,5,6] [(0,true),(1,true),(2,true),(3,true),(4,true),(5,true)] ⟨sOpF_s K N S cp t B V j,sOpF_m K N S cp t B V,True,[]⟩=some ⟨sOp7p_m K N S cp t B V j,[((wA .u8 cp S),t),((wA .u8 32 K),(27,(0,0))),((wA .u8 12 N),(28,(0,0))),((wA .u8 16 B),(22,(0,0))),((wA .u8 32 V),(27,(0,0))),((wA .u8 16 S),(22,(0,0))),((wA .u8 0 []),(5,(0,0)))],((((((True∧True)∧True)∧True)∧((True∧((0:Int)≤0))∧0≤0∧0≤cp))∧True)∧True),[]⟩:=by kernel_rfl
theorem sOp7 (K N S:List Int) (cp:Nat) (t:Tq) (B V:List Int) (j:Nat→Value) (hK:By K) (hN:By N) (hS:By S) (hc:16≤cp) (hT:S=sealL K N) (hB:B=kyL K N 0 2) (hV:V=kyL K N 2 4)  {c0:Prop} {ch0:List (Option Value)}:Runs Try.prog (cAt [1,1,1,1,1,1,1,0] (bdy Try.f22)) ⟨sOpF_s K N S cp t B V j,sOpF_m K N S cp t B V,c0,ch0⟩ (fun e s=>e= .normal∧∃(j:Nat→Value) (c:Prop) (ch:List (Option Value)),s=⟨sOpF_s K N S cp t B V j,sOpF_m K N S cp t B V,c,ch⟩) 1:=by
  refine(runs_drawH mixed (c:=(cAt [1,1,1,1,1,1,1,0] (bdy Try.f22))) (by kernel_rfl) (keep:= [0,1,2,3,4,5,6]) (π:= [(0,true),(1,true),(2,true),(3,true),(4,true),(5,true)]) (i1:=6) (i2:=7) (by kernel_rfl) (sOp7p_0 K N S cp t B V j) ⟨⟨⟨⟨⟨⟨trivial,trivial⟩,trivial⟩,trivial⟩,(by refine⟨⟨?_,?_⟩,?_,?_⟩<;>first|trivial|omega)⟩,trivial⟩,trivial⟩ (f1:=37) (f2:=36) (xs1:= [.tmp 46,.tmp 47]) (xs2:= [.tmp 42,.tmp 45,.tmp 48]) (d1:=some 48) (d2:=(some 49)) (by kernel_rfl) (call_of Try.func37 (by kernel_rfl) (by kernel_rfl)) (by kernel_rfl) (call_of Try.func36 (by kernel_rfl) (by kernel_rfl)) (G1:=fun v=>∃ f x y,v= .func f x y) (G2:=fun v=>v= .tuple #[]) (sSt_h _ _ _ _) (fun v hv hg=>by
    obtain⟨f,x,y,rfl⟩:=hg
    exact sAd_h _ _ _ _ _ _ (by kernel_rfl) (by kernel_rfl) rfl)).mono ?_
  rintro e s ⟨rfl,v1,v2,hv1,⟨f,x,y,rfl⟩,hv2,rfl,rfl⟩
  exact⟨rfl,fun q=>(putS (putS (sOp7p_m K N S cp t B V j) (some 48) (.func f x y)) (some 49) (.tuple #[])).getD q undef,((((((True∧True)∧True)∧True)∧((True∧((0:Int)≤0))∧0≤0∧0≤cp))∧True)∧True),[],by kernel_rfl⟩
abbrev sOpH_s (K N S:List Int) (cp:Nat) (t:Tq) (B V:List Int) (j:Nat→Value):List Value:=(J j 0 14 ++ ([.slice (some ⟨6,0,none⟩) 0 0] ++ (J j 15 44)))
abbrev sOpH_m (K N S:List Int) (cp:Nat) (t:Tq) (B V:List Int):List Mb:= [((wA .u8 cp S),t),((wA .u8 32 K),(27,(0,0))),((wA .u8 12 N),(28,(0,0))),((wA .u8 16 B),(22,(0,0))),((wA .u8 32 V),(27,(0,0))),((wA .u8 16 S),(22,(0,0))),((wA .u8 0 []),(5,(0,0)))]
def sOp8p_h (i:Nat):Hn:=if i=9 then⟨8,[],[],[],[]⟩ else if i=10 then⟨8,[],[],[],[]⟩ else⟨0,[],[],[],[]⟩
def sOp8p_b (K N S:List Int) (cp:Nat) (t:Tq) (B V:List Int) (j:Nat→Value):List Value:=([j 0,j 1,.slice none 0 0,.slice (some ⟨0,0,none⟩) 16 cp,.pointer (some ⟨1,0,none⟩),.pointer (some ⟨2,0,none⟩)] ++ (J j 6 4 ++ ([.pointer (some ⟨3,0,none⟩),.pointer (some ⟨4,0,none⟩),.int .i64 0,.pointer (some ⟨5,0,none⟩),.slice (some ⟨6,0,none⟩) 0 0] ++ (J j 15 35 ++ ([.agg (wA .u8 16 B),.agg (wA .u8 32 V),.agg (wA .u8 12 N),.slice none 0 0,.slice (some ⟨6,0,none⟩) 0 0,.agg (wA .u8 16 (tagL (dL8 (wA .u8 16 B)) (dL8 (wA .u8 32 V)) (dL8 (wA .u8 12 N)) (bOf [((wA .u8 cp S),t),((wA .u8 32 K),(27,(0,0))),((wA .u8 12 N),(28,(0,0))),((wA .u8 16 B),(22,(0,0))),((wA .u8 32 V),(27,(0,0))),((wA .u8 16 S),(22,(0,0))),((wA .u8 0 []),(5,(0,0)))] none 0) (bOf [((wA .u8 cp S),t),((wA .u8 32 K),(27,(0,0))),((wA .u8 12 N),(28,(0,0))),((wA .u8 16 B),(22,(0,0))),((wA .u8 32 V),(27,(0,0))),((wA .u8 16 S),(22,(0,0))),((wA .u8 0 []),(5,(0,0)))] (some ⟨6,0,none⟩) 0))),.agg (wA .u8 16 S),.bool false,j 58])))))
theorem sOp8p_0 (K N S:List Int) (cp:Nat) (t:Tq) (B V:List Int) (j:Nat→Value):evC (yty.enf tabW3 1) sOp8p_h (cAt [1,1,1,1,1,1,1,1,0] (bdy Try.f22)) ⟨sOpF_s K N S cp t B V j,sOpF_m K N S cp t B V,True,[some (.bool false)]⟩=some (.normal,⟨sOp8p_b K N S cp t B V j,[((wA .u8 cp S),t),((wA .u8 32 K),(27,(0,0))),((wA .u8 12 N),(28,(0,0))),((wA .u8 16 B),(22,(0,0))),((wA .u8 32 V),(27,(0,0))),((wA .u8 16 S),(22,(0,0))),((wA .u8 0 []),(5,(0,0)))],((((((((True∧True)∧True)∧True)∧True)∧True)∧((((wA .u8 16 B)=wA .u8 16 (dL8 (wA .u8 16 B))∧By (dL8 (wA .u8 16 B)))∧((wA .u8 32 V)=wA .u8 32 (dL8 (wA .u8 32 V))∧By (dL8 (wA .u8 32 V)))∧((wA .u8 12 N)=wA .u8 12 (dL8 (wA .u8 12 N))∧By (dL8 (wA .u8 12 N))))∧(BkOk [((wA .u8 cp S),t),((wA .u8 32 K),(27,(0,0))),((wA .u8 12 N),(28,(0,0))),((wA .u8 16 B),(22,(0,0))),((wA .u8 32 V),(27,(0,0))),((wA .u8 16 S),(22,(0,0))),((wA .u8 0 []),(5,(0,0)))] none 0 0∧BkOk [((wA .u8 cp S),t),((wA .u8 32 K),(27,(0,0))),((wA .u8 12 N),(28,(0,0))),((wA .u8 16 B),(22,(0,0))),((wA .u8 32 V),(27,(0,0))),((wA .u8 16 S),(22,(0,0))),((wA .u8 0 []),(5,(0,0)))] (some ⟨6,0,none⟩) 0 0)∧0≤1000000000∧0≤1000000000))∧True)∧((isBL 16 (wA .u8 16 (tagL (dL8 (wA .u8 16 B)) (dL8 (wA .u8 32 V)) (dL8 (wA .u8 12 N)) (bOf [((wA .u8 cp S),t),((wA .u8 32 K),(27,(0,0))),((wA .u8 12 N),(28,(0,0))),((wA .u8 16 B),(22,(0,0))),((wA .u8 32 V),(27,(0,0))),((wA .u8 16 S),(22,(0,0))),((wA .u8 0 []),(5,(0,0)))] none 0) (bOf [((wA .u8 cp S),t),((wA .u8 32 K),(27,(0,0))),((wA .u8 12 N),(28,(0,0))),((wA .u8 16 B),(22,(0,0))),((wA .u8 32 V),(27,(0,0))),((wA .u8 16 S),(22,(0,0))),((wA .u8 0 []),(5,(0,0)))] (some ⟨6,0,none⟩) 0)))∧isBL 16 (wA .u8 16 S))∧(!(intsOf (wA .u8 16 (tagL (dL8 (wA .u8 16 B)) (dL8 (wA .u8 32 V)) (dL8 (wA .u8 12 N)) (bOf [((wA .u8 cp S),t),((wA .u8 32 K),(27,(0,0))),((wA .u8 12 N),(28,(0,0))),((wA .u8 16 B),(22,(0,0))),((wA .u8 32 V),(27,(0,0))),((wA .u8 16 S),(22,(0,0))),((wA .u8 0 []),(5,(0,0)))] none 0) (bOf [((wA .u8 cp S),t),((wA .u8 32 K),(27,(0,0))),((wA .u8 12 N),(28,(0,0))),((wA .u8 16 B),(22,(0,0))),((wA .u8 32 V),(27,(0,0))),((wA .u8 16 S),(22,(0,0))),((wA .u8 0 []),(5,(0,0)))] (some ⟨6,0,none⟩) 0))) == intsOf (wA .u8 16 S)))=false)),[]⟩):=by kernel_rfl
theorem sOp8 (K N S:List Int) (cp:Nat) (t:Tq) (B V:List Int) (j:Nat→Value) (hK:By K) (hN:By N) (hS:By S) (hc:16≤cp) (hT:S=sealL K N) (hB:B=kyL K N 0 2) (hV:V=kyL K N 2 4)  {c0:Prop} {ch0:List (Option Value)}:Runs Try.prog (cAt [1,1,1,1,1,1,1,1,0] (bdy Try.f22)) ⟨sOpF_s K N S cp t B V j,sOpF_m K N S cp t B V,c0,ch0⟩ (fun e s=>e= .normal∧∃(j:Nat→Value) (c:Prop) (ch:List (Option Value)),s=⟨sOpH_s K N S cp t B V j,sOpH_m K N S cp t B V,c,ch⟩) 1:=by
  have h0:(!(intsOf (wA .u8 16 (tagL (dL8 (wA .u8 16 B)) (dL8 (wA .u8 32 V)) (dL8 (wA .u8 12 N)) (bOf [((wA .u8 cp S),t),((wA .u8 32 K),(27,(0,0))),((wA .u8 12 N),(28,(0,0))),((wA .u8 16 B),(22,(0,0))),((wA .u8 32 V),(27,(0,0))),((wA .u8 16 S),(22,(0,0))),((wA .u8 0 []),(5,(0,0)))] none 0) (bOf [((wA .u8 cp S),t),((wA .u8 32 K),(27,(0,0))),((wA .u8 12 N),(28,(0,0))),((wA .u8 16 B),(22,(0,0))),((wA .u8 32 V),(27,(0,0))),((wA .u8 16 S),(22,(0,0))),((wA .u8 0 []),(5,(0,0)))] (some ⟨6,0,none⟩) 0))) == intsOf (wA .u8 16 S)))=false:=(by rw[show(tagL (dL8 (wA .u8 16 B)) (dL8 (wA .u8 32 V)) (dL8 (wA .u8 12 N)) (bOf [((wA .u8 cp S),t),((wA .u8 32 K),(27,(0,0))),((wA .u8 12 N),(28,(0,0))),((wA .u8 16 B),(22,(0,0))),((wA .u8 32 V),(27,(0,0))),((wA .u8 16 S),(22,(0,0))),((wA .u8 0 []),(5,(0,0)))] none 0) (bOf [((wA .u8 cp S),t),((wA .u8 32 K),(27,(0,0))),((wA .u8 12 N),(28,(0,0))),((wA .u8 16 B),(22,(0,0))),((wA .u8 32 V),(27,(0,0))),((wA .u8 16 S),(22,(0,0))),((wA .u8 0 []),(5,(0,0)))] (some ⟨6,0,none⟩) 0))=S from(tagL_w _ _ _ _ _).trans (by rw[hB,hV,hT];rfl)];simp)
  refine(runs_ev mixed _ (sOp8p_0 K N S cp t B V j) ⟨⟨⟨⟨⟨⟨⟨⟨trivial,trivial⟩,trivial⟩,trivial⟩,trivial⟩,trivial⟩,⟨⟨dq (by rw[hB];exact kyL_by _ _ _ _),dq (by rw[hV];exact kyL_by _ _ _ _),dq hN⟩,⟨⟨by decide,.inl ⟨rfl,rfl,rfl⟩⟩,⟨by decide,.inr ⟨6,0,_,_,rfl,rfl,fun i hi=>by omega,by decide⟩⟩⟩,by decide,by decide⟩⟩,trivial⟩,⟨⟨isBL_w _ _,isBL_w _ _⟩,h0⟩⟩).mono ?_
  rintro e s ⟨rfl,hs⟩
  refine⟨rfl,fun q=>s.tm.getD q undef,s.c,s.ch,?_⟩
  subst hs
  kernel_rfl
abbrev sOpI_s (K N S:List Int) (cp:Nat) (t:Tq) (B V:List Int) (j:Nat→Value):List Value:=(J j 0 8 ++ ([.slice (some ⟨6,0,none⟩) 0 0,.int .i64 0] ++ (J j 10 49)))
abbrev sOpI_m (K N S:List Int) (cp:Nat) (t:Tq) (B V:List Int):List Mb:= [((wA .u8 cp S),t),((wA .u8 32 K),(27,(0,0))),((wA .u8 12 N),(28,(0,0))),((wA .u8 16 B),(22,(0,0))),((wA .u8 32 V),(27,(0,0))),((wA .u8 16 S),(22,(0,0))),((wA .u8 0 []),(5,(0,0)))]
def sOp9p_h (i:Nat):Hn:=if i=9 then⟨8,[],[],[],[]⟩ else if i=10 then⟨8,[],[],[],[]⟩ else⟨0,[],[],[],[]⟩
def sOp9p_b (K N S:List Int) (cp:Nat) (t:Tq) (B V:List Int) (j:Nat→Value):List Value:=(J j 0 8 ++ ([.slice (some ⟨6,0,none⟩) 0 0,.int .i64 0] ++ (J j 10 4 ++ ([.slice (some ⟨6,0,none⟩) 0 0] ++ (J j 15 43 ++ ([.slice (some ⟨6,0,none⟩) 0 0]))))))
theorem sOp9p_0 (K N S:List Int) (cp:Nat) (t:Tq) (B V:List Int) (j:Nat→Value):evC (yty.enf tabW3 1) sOp9p_h (cAt [1,1,1,1,1,1,1,1,1] (bdy Try.f22)) ⟨sOpH_s K N S cp t B V j,sOpH_m K N S cp t B V,True,[]⟩=some (.ret,⟨sOp9p_b K N S cp t B V j,[((wA .u8 cp S),t),((wA .u8 32 K),(27,(0,0))),((wA .u8 12 N),(28,(0,0))),((wA .u8 16 B),(22,(0,0))),((wA .u8 32 V),(27,(0,0))),((wA .u8 16 S),(22,(0,0))),((wA .u8 0 []),(5,(0,0)))],(((True∧True)∧True)∧True),[]⟩):=by kernel_rfl
theorem sOp9 (K N S:List Int) (cp:Nat) (t:Tq) (B V:List Int) (j:Nat→Value) (hK:By K) (hN:By N) (hS:By S) (hc:16≤cp) (hT:S=sealL K N) (hB:B=kyL K N 0 2) (hV:V=kyL K N 2 4)  {c0:Prop} {ch0:List (Option Value)}:Runs Try.prog (cAt [1,1,1,1,1,1,1,1,1] (bdy Try.f22)) ⟨sOpH_s K N S cp t B V j,sOpH_m K N S cp t B V,c0,ch0⟩ (fun e s=>e= .ret∧∃(j:Nat→Value) (c:Prop) (ch:List (Option Value)),s=⟨sOpI_s K N S cp t B V j,sOpI_m K N S cp t B V,c,ch⟩) 1:=by
  refine(runs_ev mixed _ (sOp9p_0 K N S cp t B V j) ⟨⟨⟨trivial,trivial⟩,trivial⟩,trivial⟩).mono ?_
  rintro e s ⟨rfl,hs⟩
  refine⟨rfl,fun q=>s.tm.getD q undef,s.c,s.ch,?_⟩
  subst hs
  kernel_rfl
theorem sOpu (K N S:List Int) (cp:Nat) (t:Tq) (j:Nat→Value) (hK:By K) (hN:By N) (hS:By S) (hc:16≤cp) (hT:S=sealL K N)  {c0:Prop} {ch0:List (Option Value)}:Runs Try.prog (cAt [] (bdy Try.f22)) ⟨sOpA_s K N S cp t j,sOpA_m K N S cp t,c0,ch0⟩ (fun e s=>e= .ret∧∃(j:Nat→Value) (c:Prop) (ch:List (Option Value)),((kyL (dL8 (wA .u8 32 K)) (dL8 (wA .u8 12 N)) 0 2)=kyL K N 0 2)∧((kyL (dL8 (wA .u8 32 K)) (dL8 (wA .u8 12 N)) 2 4)=kyL K N 2 4)∧s=⟨sOpI_s K N S cp t (kyL (dL8 (wA .u8 32 K)) (dL8 (wA .u8 12 N)) 0 2) (kyL (dL8 (wA .u8 32 K)) (dL8 (wA .u8 12 N)) 2 4) j,sOpI_m K N S cp t (kyL (dL8 (wA .u8 32 K)) (dL8 (wA .u8 12 N)) 0 2) (kyL (dL8 (wA .u8 32 K)) (dL8 (wA .u8 12 N)) 2 4),c,ch⟩) 1:=by
  rw[show(cAt [] (bdy Try.f22))=(.seq (cAt [0] (bdy Try.f22)) (.seq (cAt [1,0] (bdy Try.f22)) (.seq (cAt [1,1,0] (bdy Try.f22)) (.seq (cAt [1,1,1,0] (bdy Try.f22)) (.seq (cAt [1,1,1,1,0] (bdy Try.f22)) (.seq (cAt [1,1,1,1,1,0] (bdy Try.f22)) (.seq (cAt [1,1,1,1,1,1,0] (bdy Try.f22)) (.seq (cAt [1,1,1,1,1,1,1,0] (bdy Try.f22)) (.seq (cAt [1,1,1,1,1,1,1,1,0] (bdy Try.f22)) (cAt [1,1,1,1,1,1,1,1,1] (bdy Try.f22))))))))))) from by kernel_rfl]
  refine runs_seq (sOp0 K N S cp t j hK hN hS hc hT ) (fun s hh=> ?_) (fun e s hne hh=>absurd hh.1 hne)
  obtain⟨_,j,c,ch,rfl⟩:=hh
  refine runs_seq (sOp1 K N S cp t j hK hN hS hc hT ) (fun s hh=> ?_) (fun e s hne hh=>absurd hh.1 hne)
  obtain⟨_,j,c,ch,rfl⟩:=hh
  refine runs_seq (sOp2 K N S cp t j hK hN hS hc hT ) (fun s hh=> ?_) (fun e s hne hh=>absurd hh.1 hne)
  obtain⟨_,j,c,ch,rfl⟩:=hh
  refine runs_seq (sOp3 K N S cp t j hK hN hS hc hT ) (fun s hh=> ?_) (fun e s hne hh=>absurd hh.1 hne)
  obtain⟨_,j,c,ch,f3_5,f3_6,rfl⟩:=hh
  refine runs_seq (sOp4 K N S cp t (kyL (dL8 (wA .u8 32 K)) (dL8 (wA .u8 12 N)) 0 2) (kyL (dL8 (wA .u8 32 K)) (dL8 (wA .u8 12 N)) 2 4) j hK hN hS hc hT f3_5 f3_6 ) (fun s hh=> ?_) (fun e s hne hh=>absurd hh.1 hne)
  obtain⟨_,j,c,ch,rfl⟩:=hh
  refine runs_seq (sOp5 K N S cp t (kyL (dL8 (wA .u8 32 K)) (dL8 (wA .u8 12 N)) 0 2) (kyL (dL8 (wA .u8 32 K)) (dL8 (wA .u8 12 N)) 2 4) j hK hN hS hc hT f3_5 f3_6 ) (fun s hh=> ?_) (fun e s hne hh=>absurd hh.1 hne)
  obtain⟨_,j,c,ch,rfl⟩:=hh
  refine runs_seq (sOp6 K N S cp t (kyL (dL8 (wA .u8 32 K)) (dL8 (wA .u8 12 N)) 0 2) (kyL (dL8 (wA .u8 32 K)) (dL8 (wA .u8 12 N)) 2 4) j hK hN hS hc hT f3_5 f3_6 ) (fun s hh=> ?_) (fun e s hne hh=>absurd hh.1 hne)
  obtain⟨_,j,c,ch,rfl⟩:=hh
  refine runs_seq (sOp7 K N S cp t (kyL (dL8 (wA .u8 32 K)) (dL8 (wA .u8 12 N)) 0 2) (kyL (dL8 (wA .u8 32 K)) (dL8 (wA .u8 12 N)) 2 4) j hK hN hS hc hT f3_5 f3_6 ) (fun s hh=> ?_) (fun e s hne hh=>absurd hh.1 hne)
  obtain⟨_,j,c,ch,rfl⟩:=hh
  refine runs_seq (sOp8 K N S cp t (kyL (dL8 (wA .u8 32 K)) (dL8 (wA .u8 12 N)) 0 2) (kyL (dL8 (wA .u8 32 K)) (dL8 (wA .u8 12 N)) 2 4) j hK hN hS hc hT f3_5 f3_6 ) (fun s hh=> ?_) (fun e s hne hh=>absurd hh.1 hne)
  obtain⟨_,j,c,ch,rfl⟩:=hh
  refine(sOp9 K N S cp t (kyL (dL8 (wA .u8 32 K)) (dL8 (wA .u8 12 N)) 0 2) (kyL (dL8 (wA .u8 32 K)) (dL8 (wA .u8 12 N)) 2 4) j hK hN hS hc hT f3_5 f3_6 ).mono ?_
  rintro e s ⟨rfl,j,c,ch,rfl⟩
  exact⟨rfl,j,c,ch,f3_5,f3_6,rfl⟩
theorem sOp_c (K N:List Int) (cp:Nat) (t:Tq) (hK:By K) (hN:By N) (hc:16≤cp):MakesT Try.prog 22 [(wA .u8 cp (sealL K N),t)] [.agg (wA .u8 32 K),.agg (wA .u8 12 N),.slice none 0 0,.slice (some ⟨0,0,none⟩) 16 cp] .u8 0 [] 5 (.int .i64 0):=
  makesT_runs (fk:=1) Try.func22 (c:=bdy Try.f22) (by kernel_rfl) ⟨rfl,by decide⟩ (args:= [.agg (wA .u8 32 K),.agg (wA .u8 12 N),.slice none 0 0,.slice (some ⟨0,0,none⟩) 16 cp]) (by kernel_rfl) (r:=8) (r2:=9) (by kernel_rfl) (sOpu K N (sealL K N) cp t (fun _=>undef) hK hN (tagL_by _ _ _ _ _) hc rfl) (fun e s h=>by
    obtain⟨rfl,j,c,ch,hB,hV,rfl⟩:=h
    exact⟨rfl,rfl,rfl,6,0,by decide,by decide,rfl,rfl⟩)
end Go.Proofs.Ytnadkbniljejfaa

set_option linter.unusedSimpArgs false
set_option linter.unusedVariables false
/-! siv: known. -/
namespace Go.Proofs.Ytnadkbniljejfaa
open Go.RowKit Go.Ev
theorem by_1:By [1]:=by_cons ⟨by decide,by decide⟩ by_nil
theorem by_3:By [3]:=by_cons ⟨by decide,by decide⟩ by_nil
theorem kh0:encL [1] (blkL [3] 0)= [181,211,197,41,223,175,172,67,3,132,166,59,4,110,153,158]:=by kernel_rfl
theorem kh1:encL [1] (blkL [3] 1)= [19,109,45,17,190,40,77,127,212,152,177,66,162,153,90,90]:=by kernel_rfl
theorem kh2:encL [1] (blkL [3] 2)= [185,20,244,116,43,233,225,215,100,29,57,122,154,15,250,100]:=by kernel_rfl
theorem kh3:encL [1] (blkL [3] 3)= [162,248,74,221,191,150,222,195,252,222,251,206,175,210,165,243]:=by kernel_rfl
theorem kh4:encL [1] (blkL [3] 4)= [69,110,60,108,5,236,193,87,9,216,137,70,50,72,15,175]:=by kernel_rfl
theorem kh5:encL [1] (blkL [3] 5)= [205,191,7,0,254,218,210,34,115,9,141,210,234,162,104,179]:=by kernel_rfl
theorem ky_lit {K N:List Int} {q n:Nat} (f:Nat→List Int) (h:∀ k,k<n→hfL K N ((q+k:Nat):Int)=f k):kyL K N q n=(List.range (8*n)).map fun i=>(f (i / 8)).getD (i%8) 0:=List.map_congr_left fun i hi=>by
  have hi:i<8*n:=by simpa using hi
  rw[h (i / 8) (by omega)]
theorem ky_B:kyL [1] [3] 0 2= [181,211,197,41,223,175,172,67,19,109,45,17,190,40,77,127]:=by
  rw [ky_lit (fun k => [[181, 211, 197, 41, 223, 175, 172, 67, 3, 132, 166, 59, 4, 110, 153, 158], [19, 109, 45, 17, 190, 40, 77, 127, 212, 152, 177, 66, 162, 153, 90, 90]].getD k []) (fun k hk => by
    match k,hk with
    |0,_=>exact kh0
    |1,_=>exact kh1)]
  decide+kernel
theorem ky_T:kyL [1] [3] 2 4= [185,20,244,116,43,233,225,215,162,248,74,221,191,150,222,195,69,110,60,108,5,236,193,87,205,191,7,0,254,218,210,34]:=by
  rw [ky_lit (fun k => [[185, 20, 244, 116, 43, 233, 225, 215, 100, 29, 57, 122, 154, 15, 250, 100], [162, 248, 74, 221, 191, 150, 222, 195, 252, 222, 251, 206, 175, 210, 165, 243], [69, 110, 60, 108, 5, 236, 193, 87, 9, 216, 137, 70, 50, 72, 15, 175], [205, 191, 7, 0, 254, 218, 210, 34, 115, 9, 141, 210, 234, 162, 104, 179]].getD k []) (fun k hk => by
    match k,hk with
    |0,_=>exact kh2
    |1,_=>exact kh3
    |2,_=>exact kh4
    |3,_=>exact kh5)]
  decide+kernel
theorem abs_0 (H S:List Int):absL H S []=dL8 (wA .u8 16 S):=rfl
theorem tsL_0 {H:List Int} (hH:By H):tsL H [] []=eL 0:=by
  unfold tsL
  rw[abs_0,absL_w1,abs_0,absL_w1]
  have e1:(jnL ((8*([]:List Int).length:Nat):Int) ((8*([]:List Int).length:Nat):Int))=jnL 0 0:=rfl
  rw[e1]
  have e2:absL H [] (jnL 0 0)=dotL (xr (dL8 (wA .u8 16 [])) (jnL 0 0)) H:=rfl
  rw[e2,dotL_eq (xr_by _ _) hH]
  have e3:nL (xr (dL8 (wA .u8 16 [])) (jnL 0 0))=0:=by decide+kernel
  rw[e3,fdot_0a]
theorem seal_val:sealL [1] [3]= [7,245,244,22,155,191,85,168,64,12,212,126,166,253,64,15]:=by
  have hb:By [181,211,197,41,223,175,172,67,19,109,45,17,190,40,77,127]:=by
    have:=kyL_by [1] [3] 0 2
    rwa[ky_B] at this
  unfold sealL tagL
  rw[ky_B,ky_T,tsL_0 hb]
  have e:cutL (xrv (eL 0) [3] 12)= [3,0,0,0,0,0,0,0,0,0,0,0,0,0,0,0]:=by decide+kernel
  rw[e]
  show encL [185,20,244,116,43,233,225,215,162,248,74,221,191,150,222,195,69,110,60,108,5,236,193,87,205,191,7,0,254,218,210,34] [3,0,0,0,0,0,0,0,0,0,0,0,0,0,0,0]= [7,245,244,22,155,191,85,168,64,12,212,126,166,253,64,15]
  kernel_rfl
def jS9:ByteArray:=⟨#[7,245,244,22,155,191,85,168,64,12,212,126,166,253,64,15]⟩
abbrev sKnA_s (z:Unit) (j:Nat→Value):List Value:=(JU 34)
abbrev sKnA_m (z:Unit):List Mb:= []
abbrev sKnB_s (z:Unit) (j:Nat→Value):List Value:=(J j 0 34)
abbrev sKnB_m (z:Unit):List Mb:= []
def sKn0p_h (i:Nat):Hn:=⟨0,[],[],[],[]⟩
def sKn0p_b (z:Unit) (j:Nat→Value):List Value:=([.bool false] ++ (JU 33))
theorem sKn0p_0 (z:Unit) (j:Nat→Value):evC (yty.en tabV0) sKn0p_h (cAt [0] (bdy Try.f11)) ⟨sKnA_s z j,sKnA_m z,True,[]⟩=some (.normal,⟨sKn0p_b z j,[],(True∧True),[]⟩):=by kernel_rfl
theorem sKn0 (z:Unit) (j:Nat→Value)   {c0:Prop} {ch0:List (Option Value)}:Runs Try.prog (cAt [0] (bdy Try.f11)) ⟨sKnA_s z j,sKnA_m z,c0,ch0⟩ (fun e s=>e= .normal∧∃(j:Nat→Value) (c:Prop) (ch:List (Option Value)),s=⟨sKnB_s z j,sKnB_m z,c,ch⟩) 0:=by
  refine(runs_ev mixed _ (sKn0p_0 z j) ⟨trivial,trivial⟩).mono ?_
  rintro e s ⟨rfl,hs⟩
  refine⟨rfl,fun q=>s.tm.getD q undef,s.c,s.ch,?_⟩
  subst hs
  kernel_rfl
abbrev sKnC_s (z:Unit) (k:Nat) (j:Nat→Value):List Value:=([j 0,.slice (some ⟨0,0,none⟩) 16 k,.int .i64 0] ++ (J j 3 31))
abbrev sKnC_m (z:Unit) (k:Nat):List Mb:= [((wA .u8 k (sealL [1] [3])),(5,(0,0)))]
def sKn1p_m0 (z:Unit) (j:Nat→Value):List Value:=(J j 0 6 ++ ([.agg (wA .u8 32 [1]),.agg (wA .u8 12 [3])] ++ (J j 8 26)))
theorem sKn1p_0 (z:Unit) (j:Nat→Value):evL (yty.en tabV0) (oT (cAt [1,0] (bdy Try.f11))) ((oT (cAt [1,0] (bdy Try.f11))).toList.take 2) ⟨sKnB_s z j,sKnB_m z,True,[]⟩=some ⟨sKn1p_m0 z j,[],((True∧True)∧True),[]⟩:=by kernel_rfl
def sKn1p_b (z:Unit) (j:Nat→Value) (b1 k1:Nat):List Value:=([j 0,.slice (some ⟨0,0,none⟩) 16 k1,.int .i64 0,j 3,j 4,.tuple #[.slice (some ⟨b1,0,none⟩) 16 k1,.int .i64 0],.agg (wA .u8 32 [1]),.agg (wA .u8 12 [3]),.tuple #[.slice (some ⟨b1,0,none⟩) 16 k1,.int .i64 0],.slice (some ⟨0,0,none⟩) 16 k1,.int .i64 0] ++ (J j 11 23))
theorem sKn1p_e (z:Unit) (j:Nat→Value) (b1 k1:Nat):evL (yty.en tabV0) (oT (cAt [1,0] (bdy Try.f11))) ((oT (cAt [1,0] (bdy Try.f11))).toList.drop 5) ⟨(((sKn1p_m0 z j).set 8 (.tuple #[.slice (some ⟨b1,0,none⟩) 16 k1,.int .i64 0])).set 5 (.tuple #[.slice (some ⟨b1,0,none⟩) 16 k1,.int .i64 0])).set 9 (.slice (some ⟨0,0,none⟩) 16 k1),[] ++ [(wA .u8 k1 (sealL [1] [3]),5,(0,0))],True,[]⟩=some ⟨sKn1p_b z j b1 k1,[((wA .u8 k1 (sealL [1] [3])),(5,(0,0)))],(((True∧True)∧True)∧True),[]⟩:=by kernel_rfl
theorem sKn1 (z:Unit) (j:Nat→Value)   {c0:Prop} {ch0:List (Option Value)}:Runs Try.prog (cAt [1,0] (bdy Try.f11)) ⟨sKnB_s z j,sKnB_m z,c0,ch0⟩ (fun e s=>e= .normal∧∃(k1:Nat) (j:Nat→Value) (c:Prop) (ch:List (Option Value)),(16≤k1)∧s=⟨sKnC_s z k1 j,sKnC_m z k1,c,ch⟩) 0:=by
  refine runs_region (K:=fun s=>∃(k1:Nat) (j:Nat→Value) (c:Prop) (ch:List (Option Value)),(16≤k1)∧s=⟨sKnC_s z k1 j,sKnC_m z k1,c,ch⟩) (by kernel_rfl) ?_
  refine runsL_callTS (E:=(yty.en tabV0)) (f:=20) (xs:= [.tmp 6,.tmp 7,.const (.slice none 0 0),.const (.slice none 0 0)]) (d0:=8) (d1:=5) (d2:=9) (q:= .u8) (n:=16) (L:=(sealL [1] [3])) (e:=5) (v:= .int .i64 0) 2 (sKn1p_0 z j) ⟨⟨trivial,trivial⟩,trivial⟩ (by kernel_rfl) (by kernel_rfl) (by kernel_rfl) (call_of Try.func20 (by kernel_rfl) (by kernel_rfl)) rfl (sSl_c [1] [3] by_1 by_3 _ _) rfl (of_decide_eq_true (by kernel_rfl)) ⟨of_decide_eq_true (by kernel_rfl),of_decide_eq_true (by kernel_rfl)⟩ (fun b1 k1 c ch hk1=> ?_)
  refine(runsL_ev _ (sKn1p_e z j b1 k1) ⟨⟨⟨trivial,trivial⟩,trivial⟩,trivial⟩).mono ?_
  rintro s hs
  refine⟨k1,fun q=>s.tm.getD q undef,s.c,s.ch,by rw[sealL,tagL_len] at hk1;exact hk1,?_⟩
  subst hs
  kernel_rfl
abbrev sKnD_s (z:Unit) (k:Nat) (k2:Nat) (j:Nat→Value):List Value:=([j 0,.slice (some ⟨0,0,none⟩) 16 k,.int .i64 0,.slice (some ⟨1,0,none⟩) 0 k2,.int .i64 0] ++ (J j 5 29))
abbrev sKnD_m (z:Unit) (k:Nat) (k2:Nat):List Mb:= [((wA .u8 k (sealL [1] [3])),(5,(0,0))),((wA .u8 k2 []),(5,(0,0)))]
def sKn2p_m0 (z:Unit) (k:Nat) (j:Nat→Value):List Value:=([j 0,.slice (some ⟨0,0,none⟩) 16 k,.int .i64 0] ++ (J j 3 9 ++ ([.agg (wA .u8 32 [1]),.agg (wA .u8 12 [3]),.slice (some ⟨0,0,none⟩) 16 k] ++ (J j 15 19))))
theorem sKn2p_0 (z:Unit) (k:Nat) (j:Nat→Value):evL (yty.en tabV0) (oT (cAt [1,1,0] (bdy Try.f11))) ((oT (cAt [1,1,0] (bdy Try.f11))).toList.take 3) ⟨sKnC_s z k j,sKnC_m z k,True,[]⟩=some ⟨sKn2p_m0 z k j,[((wA .u8 k (sealL [1] [3])),(5,(0,0)))],(((True∧True)∧True)∧True),[]⟩:=by kernel_rfl
def sKn2p_b (z:Unit) (k:Nat) (j:Nat→Value) (b1 k1:Nat):List Value:=([j 0,.slice (some ⟨0,0,none⟩) 16 k,.int .i64 0,.slice (some ⟨1,0,none⟩) 0 k1,.int .i64 0] ++ (J j 5 6 ++ ([.tuple #[.slice (some ⟨b1,0,none⟩) 0 k1,.int .i64 0],.agg (wA .u8 32 [1]),.agg (wA .u8 12 [3]),.slice (some ⟨0,0,none⟩) 16 k,.tuple #[.slice (some ⟨b1,0,none⟩) 0 k1,.int .i64 0],.slice (some ⟨1,0,none⟩) 0 k1,.int .i64 0] ++ (J j 18 16))))
theorem sKn2p_e (z:Unit) (k:Nat) (j:Nat→Value) (b1 k1:Nat):evL (yty.en tabV0) (oT (cAt [1,1,0] (bdy Try.f11))) ((oT (cAt [1,1,0] (bdy Try.f11))).toList.drop 6) ⟨(((sKn2p_m0 z k j).set 15 (.tuple #[.slice (some ⟨b1,0,none⟩) 0 k1,.int .i64 0])).set 11 (.tuple #[.slice (some ⟨b1,0,none⟩) 0 k1,.int .i64 0])).set 16 (.slice (some ⟨1,0,none⟩) 0 k1),[((wA .u8 k (sealL [1] [3])),(5,(0,0)))] ++ [(wA .u8 k1 ([]),5,(0,0))],True,[]⟩=some ⟨sKn2p_b z k j b1 k1,[((wA .u8 k (sealL [1] [3])),(5,(0,0))),((wA .u8 k1 ([])),(5,(0,0)))],(((True∧True)∧True)∧True),[]⟩:=by kernel_rfl
theorem sKn2 (z:Unit) (k:Nat) (j:Nat→Value) (hk:16≤k)  {c0:Prop} {ch0:List (Option Value)}:Runs Try.prog (cAt [1,1,0] (bdy Try.f11)) ⟨sKnC_s z k j,sKnC_m z k,c0,ch0⟩ (fun e s=>e= .normal∧∃(k1:Nat) (j:Nat→Value) (c:Prop) (ch:List (Option Value)),s=⟨sKnD_s z k k1 j,sKnD_m z k k1,c,ch⟩) 0:=by
  refine runs_region (K:=fun s=>∃(k1:Nat) (j:Nat→Value) (c:Prop) (ch:List (Option Value)),s=⟨sKnD_s z k k1 j,sKnD_m z k k1,c,ch⟩) (by kernel_rfl) ?_
  refine runsL_callTS (E:=(yty.en tabV0)) (f:=22) (xs:= [.tmp 12,.tmp 13,.const (.slice none 0 0),.tmp 14]) (d0:=15) (d1:=11) (d2:=16) (q:= .u8) (n:=0) (L:=([])) (e:=5) (v:= .int .i64 0) 3 (sKn2p_0 z k j) ⟨⟨⟨trivial,trivial⟩,trivial⟩,trivial⟩ (by kernel_rfl) (by kernel_rfl) (by kernel_rfl) (call_of Try.func22 (by kernel_rfl) (by kernel_rfl)) rfl (sOp_c [1] [3] k _ by_1 by_3 hk) rfl (of_decide_eq_true (by kernel_rfl)) ⟨of_decide_eq_true (by kernel_rfl),of_decide_eq_true (by kernel_rfl)⟩ (fun b1 k1 c ch hk1=> ?_)
  refine(runsL_ev _ (sKn2p_e z k j b1 k1) ⟨⟨⟨trivial,trivial⟩,trivial⟩,trivial⟩).mono ?_
  rintro s hs
  refine⟨k1,fun q=>s.tm.getD q undef,s.c,s.ch,?_⟩
  subst hs
  kernel_rfl
abbrev sKnE_s (z:Unit) (k:Nat) (k2:Nat) (j:Nat→Value):List Value:=([.bool true] ++ (J j 1 33))
abbrev sKnE_m (z:Unit) (k:Nat) (k2:Nat):List Mb:= [((wA .u8 k (sealL [1] [3])),(5,(0,0))),((wA .u8 k2 []),(5,(0,0)))]
def sKn3p_h (i:Nat):Hn:=⟨0,[],[],[],[]⟩
def sKn3p_b (z:Unit) (k:Nat) (k2:Nat) (j:Nat→Value):List Value:=([.bool true,.slice (some ⟨0,0,none⟩) 16 k,.int .i64 0,.slice (some ⟨1,0,none⟩) 0 k2,.int .i64 0] ++ (J j 5 13 ++ ([.int .i64 0,.bool true,.bool true,.int .i64 0,.bool true,.bool true,.bool true,.slice (some ⟨1,0,none⟩) 0 k2,.int .i64 0,.bool true,.bool true,.bool true,.slice (some ⟨0,0,none⟩) 16 k,.string (bstr ((wA .u8 k (sealL [1] [3])).extract 0 (0+16))),.bool true,.bool true])))
theorem sKn3p_0 (z:Unit) (k:Nat) (k2:Nat) (j:Nat→Value):evC (yty.en tabV0) sKn3p_h (cAt [1,1,1] (bdy Try.f11)) ⟨sKnD_s z k k2 j,sKnD_m z k k2,True,[none,none,none,some (.bool true)]⟩=some (.ret,⟨sKn3p_b z k k2 j,[((wA .u8 k (sealL [1] [3])),(5,(0,0))),((wA .u8 k2 []),(5,(0,0)))],(((((((((((((((((True∧True)∧True)∧True)∧True)∧True)∧True)∧True)∧True)∧True)∧True)∧True)∧True)∧True)∧(((wA .u8 k (sealL [1] [3])).extract 0 (0+16)).all isB8=true∧0+16≤(wA .u8 k (sealL [1] [3])).size))∧(True∧(((bstr ((wA .u8 k (sealL [1] [3])).extract 0 (0+16)))).toList == (jS9).toList)=true))∧True)∧True),[]⟩):=by kernel_rfl
theorem sKn3 (z:Unit) (k:Nat) (k2:Nat) (j:Nat→Value) (hk:16≤k)  {c0:Prop} {ch0:List (Option Value)}:Runs Try.prog (cAt [1,1,1] (bdy Try.f11)) ⟨sKnD_s z k k2 j,sKnD_m z k k2,c0,ch0⟩ (fun e s=>e= .ret∧∃(j:Nat→Value) (c:Prop) (ch:List (Option Value)),s=⟨sKnE_s z k k2 j,sKnE_m z k k2,c,ch⟩) 0:=by
  have h3:(((bstr ((wA .u8 k (sealL [1] [3])).extract 0 (0+16)))).toList == (jS9).toList)=true:=(by rw[(ext16 (S:=sealL [1] [3]) hk rfl).1,seal_val];kernel_rfl)
  refine(runs_ev mixed _ (sKn3p_0 z k k2 j) ⟨⟨⟨⟨⟨⟨⟨⟨⟨⟨⟨⟨⟨⟨⟨⟨⟨trivial,trivial⟩,trivial⟩,trivial⟩,trivial⟩,trivial⟩,trivial⟩,trivial⟩,trivial⟩,trivial⟩,trivial⟩,trivial⟩,trivial⟩,trivial⟩,⟨by rw[(ext16 (S:=sealL [1] [3]) hk rfl).1,seal_val];kernel_rfl,by rw[wA_size];omega⟩⟩,⟨trivial,h3⟩⟩,trivial⟩,trivial⟩).mono ?_
  rintro e s ⟨rfl,hs⟩
  refine⟨rfl,fun q=>s.tm.getD q undef,s.c,s.ch,?_⟩
  subst hs
  kernel_rfl
theorem sKnu (z:Unit) (j:Nat→Value)   {c0:Prop} {ch0:List (Option Value)}:Runs Try.prog (cAt [] (bdy Try.f11)) ⟨sKnA_s z j,sKnA_m z,c0,ch0⟩ (fun e s=>e= .ret∧∃(k11:Nat) (k12:Nat) (j:Nat→Value) (c:Prop) (ch:List (Option Value)),(16≤k11)∧s=⟨sKnE_s z k11 k12 j,sKnE_m z k11 k12,c,ch⟩) 0:=by
  rw[show(cAt [] (bdy Try.f11))=(.seq (cAt [0] (bdy Try.f11)) (.seq (cAt [1,0] (bdy Try.f11)) (.seq (cAt [1,1,0] (bdy Try.f11)) (cAt [1,1,1] (bdy Try.f11))))) from by kernel_rfl]
  refine runs_seq (sKn0 z j  ) (fun s hh=> ?_) (fun e s hne hh=>absurd hh.1 hne)
  obtain⟨_,j,c,ch,rfl⟩:=hh
  refine runs_seq (sKn1 z j  ) (fun s hh=> ?_) (fun e s hne hh=>absurd hh.1 hne)
  obtain⟨_,k11,j,c,ch,f1_0,rfl⟩:=hh
  refine runs_seq (sKn2 z k11 j f1_0 ) (fun s hh=> ?_) (fun e s hne hh=>absurd hh.1 hne)
  obtain⟨_,k12,j,c,ch,rfl⟩:=hh
  refine(sKn3 z k11 k12 j f1_0 ).mono ?_
  rintro e s ⟨rfl,j,c,ch,rfl⟩
  exact⟨rfl,k11,k12,j,c,ch,f1_0,rfl⟩
theorem sKn_c:Pure Try.prog 11 #[] (.bool true):=by
  refine pure_runs (E:=(yty.en tabV0)) Try.func11 (c:=bdy Try.f11) (by kernel_rfl) (args:= []) (by kernel_rfl) (K:=fun e s=>e= .ret∧resS (yty.en tabV0) s Try.f11.results.toList=some [.bool true]) ?_ (fun e s h=>⟨h.1,_,h.2,rfl⟩)
  refine(sKnu () (fun _=>undef)).mono ?_
  rintro e s ⟨rfl,k,k2,j,c,ch,_,rfl⟩
  exact⟨rfl,by kernel_rfl⟩
def pk9:Entry Try.prog:=ent0 Try.func11 (by kernel_rfl) (by kernel_rfl) (.bool true) sKn_c
end Go.Proofs.Ytnadkbniljejfaa
