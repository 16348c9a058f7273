import Derived.Test.YthldpfindbhkeaaZSPvalSiC1
import Derived.Test.YthldpfindbhkeaaZSPvalEvW1
import Derived.Test.YthldpfindbhkeaaZSPvalSiM1
set_option linter.unusedSimpArgs false
set_option linter.unusedVariables false
/-! siv: nothing sealed. -/
namespace Go.Proofs.Ythldpfindbhkeaa
open Go.RowKit Go.Ev
def sStA_h (i:Nat):Hn:=⟨0,[],[],[],[]⟩
abbrev sStA_R (w:List Nat) (S:FS) (e:Exit) (K:FS→Prop):Prop:=Rn Try.prog (cAt w (bdy Try.f37)) S e K 0
structure sStA_c (K Z:List Int):Prop where
variable {K Z:List Int} {k_1:sStA_c K Z}
abbrev sStA (_:sStA_c K Z):FS:=⟨true,12,[(0,.agg (wA .u8 32 K)),(1,.agg (wA .u8 16 Z))],[]⟩
abbrev sStB (_:sStA_c K Z):FS:=⟨false,12,[(2,.pointer (some ⟨0,0,none⟩)),(3,.pointer (some ⟨1,0,none⟩))],[((wA .u8 32 K),(27,(0,0))),((wA .u8 16 Z),(22,(0,0)))]⟩
theorem sSt0:sStA_R [0] (sStA k_1) .normal (fun z_=>z_=sStB k_1):=by
  exact rn_ev (yty.en tabV0) sStA_h mixed _ none [] [] 1 (fun j M=>by kernel_rfl) A0 rfl
abbrev sStC (_:sStA_c K Z):FS:=⟨false,12,[(2,.pointer (some ⟨0,0,none⟩)),(3,.pointer (some ⟨1,0,none⟩)),(5,.pointer (some ⟨2,0,none⟩))],[((wA .u8 32 K),(27,(0,0))),((wA .u8 16 Z),(22,(0,0))),((wA .u8 16 Z),(22,(0,0)))]⟩
theorem sSt1:sStA_R [1,0] (sStB k_1) .normal (fun z_=>z_=sStC k_1):=by
  exact rn_ev (yty.en tabV0) sStA_h mixed _ none [] [(2,((wA .u8 16 Z).all (fun v=>v.oneCell')=true))] 0 (fun j M=>by kernel_rfl) (A1 (wA_one _ _ _) A0) rfl
abbrev sStD (_:sStA_c K Z):FS:=⟨false,12,[(2,.pointer (some ⟨0,0,none⟩)),(3,.pointer (some ⟨1,0,none⟩)),(5,.pointer (some ⟨2,0,none⟩))],[((wA .u8 32 K),(27,(0,0))),((wA .u8 16 Z),(22,(0,0))),((wA .u8 16 (lset 16 Z 15 (bits .or .u8 (Z.getD 15 0) 128))),(22,(0,0)))]⟩
theorem sSt2:sStA_R [1,1,0] (sStC k_1) .normal (fun z_=>z_=sStD k_1):=by
  exact rn_ev (yty.en tabV0) sStA_h mixed _ none [some (.int .u8 (Z.getD 15 0)),none,some (.agg (wA .u8 16 [(Z.getD 0 0),(Z.getD 1 0),(Z.getD 2 0),(Z.getD 3 0),(Z.getD 4 0),(Z.getD 5 0),(Z.getD 6 0),(Z.getD 7 0),(Z.getD 8 0),(Z.getD 9 0),(Z.getD 10 0),(Z.getD 11 0),(Z.getD 12 0),(Z.getD 13 0),(Z.getD 14 0),(bits .or .u8 (Z.getD 15 0) 128)]))] [(0,bdN 15 16),(0,(((wA .u8 16 Z)[15]? =some (.int .u8 (Z.getD 15 0)))∧(Z.getD 15 0)=(Z.getD 15 0))),(2,bdN 15 16),(0,(15<(wA .u8 16 Z).size∧(wA .u8 16 Z).setIfInBounds (15) (.int .u8 (bits .or .u8 (Z.getD 15 0) 128))=(wA .u8 16 [(Z.getD 0 0),(Z.getD 1 0),(Z.getD 2 0),(Z.getD 3 0),(Z.getD 4 0),(Z.getD 5 0),(Z.getD 6 0),(Z.getD 7 0),(Z.getD 8 0),(Z.getD 9 0),(Z.getD 10 0),(Z.getD 11 0),(Z.getD 12 0),(Z.getD 13 0),(Z.getD 14 0),(bits .or .u8 (Z.getD 15 0) 128)])))] 0 (fun j M=>by kernel_rfl) (A1 (bdd rfl) (A1 ⟨(wA_get (by omega) (by omega)),rfl⟩ (A1 (bdd rfl) (A1 ⟨by rw[wA_size];omega,by kernel_rfl⟩ A0)))) rfl
structure sStE_c (_:sStA_c K Z) (f:Fn) (x y:Array Value):Prop where
variable {f:Fn} {x y:Array Value} {k_2:sStE_c k_1 f x y}
abbrev sStE (_:sStE_c k_1 f x y):FS:=⟨false,12,[(4,(.func f x y))],[((wA .u8 32 K),(27,(0,0))),((wA .u8 16 Z),(22,(0,0))),((wA .u8 16 (lset 16 Z 15 (bits .or .u8 (Z.getD 15 0) 128))),(22,(0,0)))]⟩
abbrev sStD_s (K Z:List Int) (j:Nat→Value):List Value:=([j 0,j 1,.pointer (some ⟨0,0,none⟩),.pointer (some ⟨1,0,none⟩),j 4,.pointer (some ⟨2,0,none⟩)] ++ (J j 6 6))
abbrev sStD_m (K Z:List Int):List Mb:= [((wA .u8 32 K),(27,(0,0))),((wA .u8 16 Z),(22,(0,0))),((wA .u8 16 (lset 16 Z 15 (bits .or .u8 (Z.getD 15 0) 128))),(22,(0,0)))]
abbrev sStE_s (K Z:List Int) (f:Fn) (x y:Array Value) (j:Nat→Value):List Value:=(J j 0 4 ++ ([(.func f x y)] ++ (J j 5 7)))
abbrev sStE_m (K Z:List Int) (f:Fn) (x y:Array Value):List Mb:= [((wA .u8 32 K),(27,(0,0))),((wA .u8 16 Z),(22,(0,0))),((wA .u8 16 (lset 16 Z 15 (bits .or .u8 (Z.getD 15 0) 128))),(22,(0,0)))]
def sSt3_op_m0 (K Z:List Int) (j:Nat→Value):List Value:=([j 0,j 1,.pointer (some ⟨0,0,none⟩),.pointer (some ⟨1,0,none⟩),j 4,.pointer (some ⟨2,0,none⟩)] ++ (J j 6 6))
theorem sSt3_op_0 (K Z:List Int) (j:Nat→Value):evL (yty.en tabV0) (oT (cAt [1,1,1,0] (bdy Try.f37))) ((oT (cAt [1,1,1,0] (bdy Try.f37))).toList.take 0) ⟨sStD_s K Z j,sStD_m K Z,True,[]⟩=some ⟨sSt3_op_m0 K Z j,[((wA .u8 32 K),(27,(0,0))),((wA .u8 16 Z),(22,(0,0))),((wA .u8 16 (lset 16 Z 15 (bits .or .u8 (Z.getD 15 0) 128))),(22,(0,0)))],True,[]⟩:=by kernel_rfl
def sSt3_op_b (K Z:List Int) (j:Nat→Value) (f1:Fn) (x1 y1:Array Value):List Value:=([j 0,j 1,.pointer (some ⟨0,0,none⟩),.pointer (some ⟨1,0,none⟩),(.func f1 x1 y1),.pointer (some ⟨2,0,none⟩)] ++ (J j 6 5 ++ ([(.func f1 x1 y1)])))
theorem sSt3_op_e (K Z:List Int) (j:Nat→Value) (f1:Fn) (x1 y1:Array Value):evL (yty.en tabV0) (oT (cAt [1,1,1,0] (bdy Try.f37))) ((oT (cAt [1,1,1,0] (bdy Try.f37))).toList.drop 1) ⟨putS (sSt3_op_m0 K Z j) (some 11) (.func f1 x1 y1),[((wA .u8 32 K),(27,(0,0))),((wA .u8 16 Z),(22,(0,0))),((wA .u8 16 (lset 16 Z 15 (bits .or .u8 (Z.getD 15 0) 128))),(22,(0,0)))],True,[]⟩=some ⟨sSt3_op_b K Z j f1 x1 y1,[((wA .u8 32 K),(27,(0,0))),((wA .u8 16 Z),(22,(0,0))),((wA .u8 16 (lset 16 Z 15 (bits .or .u8 (Z.getD 15 0) 128))),(22,(0,0)))],(True∧True),[]⟩:=by kernel_rfl
theorem sSt3_o (K Z:List Int) (j:Nat→Value)   {c0:Prop} {ch0:List (Option Value)}:Runs Try.prog (cAt [1,1,1,0] (bdy Try.f37)) ⟨sStD_s K Z j,sStD_m K Z,c0,ch0⟩ (fun e s=>e= .normal∧∃(f1:Fn) (x1 y1:Array Value) (j:Nat→Value) (c:Prop) (ch:List (Option Value)),s=⟨sStE_s K Z f1 x1 y1 j,sStE_m K Z f1 x1 y1,c,ch⟩) 0:=by
  refine runs_region (K:=fun s=>∃(f1:Fn) (x1 y1:Array Value) (j:Nat→Value) (c:Prop) (ch:List (Option Value)),s=⟨sStE_s K Z f1 x1 y1 j,sStE_m K Z f1 x1 y1,c,ch⟩) (by kernel_rfl) ?_
  refine runsL_fnS (E:=(yty.en tabV0)) (d:=some 11) 0 (sSt3_op_0 K Z j) trivial (by kernel_rfl) (fun f1 x1 y1 c ch=> ?_)
  refine(runsL_ev _ (sSt3_op_e K Z j f1 x1 y1) ⟨trivial,trivial⟩).mono ?_
  rintro s hs
  refine⟨f1,x1,y1,fun q=>s.tm.getD q undef,s.c,s.ch,?_⟩
  subst hs
  kernel_rfl
theorem sSt3:sStA_R [1,1,1,0] (sStD k_1) .normal (fun z_=>∃(f1:Fn) (x1 y1:Array Value) (k_2:sStE_c k_1 f1 x1 y1),z_=sStE k_2):=by
  refine fun j c0 ch0=> ?_
  rw[show(sStD k_1).at j c0 ch0=⟨sStD_s K Z j,sStD_m K Z,c0,ch0⟩ from by kernel_rfl]
  refine(sSt3_o K Z j  ).mono ?_
  rintro e s ⟨h_,f1,x1,y1,j,c,ch,hs_⟩
  exact⟨_,⟨h_,⟨f1,x1,y1,⟨⟩,rfl⟩⟩,j,c,ch,hs_.trans (by kernel_rfl)⟩
abbrev sStF (_:sStE_c k_1 f x y):FS:=⟨false,12,[(4,(.func f x y))],[((wA .u8 32 K),(27,(0,0))),((wA .u8 16 Z),(22,(0,0))),((wA .u8 16 (lset 16 Z 15 (bits .or .u8 (Z.getD 15 0) 128))),(22,(0,0)))]⟩
theorem sSt4:sStA_R [1,1,1,1] (sStE k_2) .ret (fun z_=>z_=sStF k_2):=by
  exact rn_ev (yty.en tabV0) sStA_h mixed _ none [] [] 0 (fun j M=>by kernel_rfl) A0 rfl
theorem sStu':sStA_R [] (sStA k_1) .ret (fun z_=>∃(f13:Fn) (x13 y13:Array Value) (k_2:sStE_c k_1 f13 x13 y13),z_=sStF k_2):=by
  refine rn_seq (w:= []) (by kernel_rfl) sSt0 ?_
  rintro _ rfl
  refine rn_seq (w:= [1]) (by kernel_rfl) sSt1 ?_
  rintro _ rfl
  refine rn_seq (w:= [1,1]) (by kernel_rfl) sSt2 ?_
  rintro _ rfl
  refine rn_seq (w:= [1,1,1]) (by kernel_rfl) sSt3 ?_
  rintro _ ⟨f13,x13,y13,k_2,rfl⟩
  exact(sSt4).mono fun _ e_=>⟨f13,x13,y13,k_2,e_⟩
abbrev sStA_s (K Z:List Int) (j:Nat→Value):List Value:=([.agg (wA .u8 32 K),.agg (wA .u8 16 Z)] ++ (JU 10))
abbrev sStA_m (K Z:List Int):List Mb:= []
abbrev sStF_s (K Z:List Int) (f:Fn) (x y:Array Value) (j:Nat→Value):List Value:=(J j 0 4 ++ ([(.func f x y)] ++ (J j 5 7)))
abbrev sStF_m (K Z:List Int) (f:Fn) (x y:Array Value):List Mb:= [((wA .u8 32 K),(27,(0,0))),((wA .u8 16 Z),(22,(0,0))),((wA .u8 16 (lset 16 Z 15 (bits .or .u8 (Z.getD 15 0) 128))),(22,(0,0)))]
theorem sStu (K Z:List Int) (j:Nat→Value)   {c0:Prop} {ch0:List (Option Value)}:Runs Try.prog (cAt [] (bdy Try.f37)) ⟨sStA_s K Z j,sStA_m K Z,c0,ch0⟩ (fun e s=>e= .ret∧∃(f13:Fn) (x13:Array Value) (y13:Array Value) (j:Nat→Value) (c:Prop) (ch:List (Option Value)),s=⟨sStF_s K Z f13 x13 y13 j,sStF_m K Z f13 x13 y13,c,ch⟩) 0:=by
  refine(Rn.old (sStu' (k_1:=(⟨⟩:sStA_c K Z))) j (by kernel_rfl)).mono ?_
  rintro e s ⟨rfl,_,⟨f13,x13,y13,k_2,rfl⟩,j,c,ch,rfl⟩
  exact⟨rfl,f13,x13,y13,j,c,ch,by kernel_rfl⟩
theorem sSt_h (K Z:List Int) (mem:List Mb) (ng:Nat):Hides Try.prog 37 mem [.agg (wA .u8 32 K),.agg (wA .u8 16 Z)] (fun v=>∃ f x y,v= .func f x y) ng:=fun w β _ _=>
  hides_runs (fk:=0) (mem:= []) Try.func37 (c:=bdy Try.f37) (by kernel_rfl) ⟨rfl,by decide⟩ (args:= [.agg (wA .u8 32 K),.agg (wA .u8 16 Z)]) (by kernel_rfl) (r:=4) (by kernel_rfl) (sStu K Z (fun _=>undef)) (fun e s h=>by
    obtain⟨rfl,f,x,y,j,c,ch,rfl⟩:=h
    exact⟨rfl,rfl,f,x,y,rfl⟩) w β (fun i x hx=>by simp at hx) (fun i hi=>by simp at hi)
def sAdA_h (i:Nat):Hn:=⟨0,[],[],[],[]⟩
abbrev sAdA_R (w:List Nat) (S:FS) (e:Exit) (K:FS→Prop):Prop:=Rn Try.prog (cAt w (bdy Try.f36)) S e K 0
structure sAdA_c (u v:Value) (bp:Option Addr) (cp:Nat):Prop where
variable {u v:Value} {bp:Option Addr} {cp:Nat} {k_3:sAdA_c u v bp cp}
abbrev sAdA (_:sAdA_c u v bp cp):FS:=⟨true,43,[(0,u),(1,.slice bp 0 cp),(2,v)],[]⟩
abbrev sAdB (_:sAdA_c u v bp cp):FS:=⟨false,43,[(1,.slice bp 0 cp),(6,.int .i64 0)],[]⟩
theorem sAd0:sAdA_R [0] (sAdA k_3) .normal (fun z_=>z_=sAdB k_3):=by
  exact rn_ev (yty.en tabV0) sAdA_h mixed _ none [] [] 1 (fun j M=>by kernel_rfl) A0 rfl
abbrev sAdC (_:sAdA_c u v bp cp):FS:=⟨false,43,[],[]⟩
theorem sAd1:sAdA_R [1,0,0,0] (sAdB k_3) (.exit 0) (fun z_=>z_=sAdC k_3):=by
  exact rn_ev (yty.en tabV0) sAdA_h mixed _ none [some (.bool false)] [(7,(decide (0<((0:Nat):Int)))=false)] 0 (fun j M=>by kernel_rfl) (A1 rfl A0) rfl
abbrev sAdA_s (u v:Value) (bp:Option Addr) (cp:Nat) (j:Nat→Value):List Value:=([u,.slice bp 0 cp,v] ++ (JU 40))
abbrev sAdA_m (u v:Value) (bp:Option Addr) (cp:Nat):List Mb:= []
abbrev sAdB_s (u v:Value) (bp:Option Addr) (cp:Nat) (j:Nat→Value):List Value:=([j 0,.slice bp 0 cp] ++ (J j 2 4 ++ ([.int .i64 0] ++ (J j 7 36))))
abbrev sAdB_m (u v:Value) (bp:Option Addr) (cp:Nat):List Mb:= []
theorem sAd0_o (u v:Value) (bp:Option Addr) (cp:Nat) (j:Nat→Value)   {c0:Prop} {ch0:List (Option Value)}:Runs Try.prog (cAt [0] (bdy Try.f36)) ⟨sAdA_s u v bp cp j,sAdA_m u v bp cp,c0,ch0⟩ (fun e s=>e= .normal∧∃(j:Nat→Value) (c:Prop) (ch:List (Option Value)),s=⟨sAdB_s u v bp cp j,sAdB_m u v bp cp,c,ch⟩) 0:=by
  refine(Rn.old (sAd0 (k_3:=(⟨⟩:sAdA_c u v bp cp))) j (by kernel_rfl)).mono ?_
  rintro e s ⟨rfl,_,rfl,j,c,ch,rfl⟩
  exact⟨rfl,j,c,ch,by kernel_rfl⟩
abbrev sAdC_s (u v:Value) (bp:Option Addr) (cp:Nat) (j:Nat→Value):List Value:=(J j 0 43)
abbrev sAdC_m (u v:Value) (bp:Option Addr) (cp:Nat):List Mb:= []
theorem sAd1_o (u v:Value) (bp:Option Addr) (cp:Nat) (j:Nat→Value)   {c0:Prop} {ch0:List (Option Value)}:Runs Try.prog (cAt [1,0,0,0] (bdy Try.f36)) ⟨sAdB_s u v bp cp j,sAdB_m u v bp cp,c0,ch0⟩ (fun e s=>e=(.exit 0)∧∃(j:Nat→Value) (c:Prop) (ch:List (Option Value)),s=⟨sAdC_s u v bp cp j,sAdC_m u v bp cp,c,ch⟩) 0:=by
  refine(Rn.old (sAd1 (k_3:=(⟨⟩:sAdA_c u v bp cp))) j (by kernel_rfl)).mono ?_
  rintro e s ⟨rfl,_,rfl,j,c,ch,rfl⟩
  exact⟨rfl,j,c,ch,by kernel_rfl⟩
theorem sAd_c (u v:Value) (bp:Option Addr) (cp:Nat) (hu:okp 0 u=true) (hb:okp 0 (.slice bp 0 cp)=true) (hv:np v=true):Reads Try.prog 36 [] [u,.slice bp 0 cp,v] (.tuple #[]):=by
  refine reads_runs0 (fk:=0) (yty.en tabV0) Try.func36 (c:=bdy Try.f36) (by kernel_rfl) ⟨rfl,by decide⟩ (args:= [u,.slice bp 0 cp,v]) ?_ (by kernel_rfl) (K:=fun e s=>e= .normal) ?_ (fun e s h=>h)
  · show (Go.Ev.okp 0 u && (Go.Ev.okp 0 (.slice bp 0 cp) && (Go.Ev.okp 0 v && true))) = true
    rw[hu,hb,okp_np hv];rfl
  · rw [show (bdy Try.f36) = .seq (cAt [0] (bdy Try.f36)) (.block 0 (.loop (cAt [1, 0, 0] (bdy Try.f36)))) from by kernel_rfl]
    refine runs_seq (sAd0_o u v bp cp (fun _=>undef)) (fun s hh=> ?_) (fun e s hne hh=>absurd hh.1 hne)
    obtain⟨_,j,c,ch,rfl⟩:=hh
    refine runs_block (K1:=fun e s=>e= .exit 0) ?_ (by rintro e s rfl;exact .inl ⟨rfl,rfl⟩)
    refine runs_loop (fun M s=>∃(j:Nat→Value) (c:Prop) (ch:List (Option Value)),s=⟨sAdB_s u v bp cp j,sAdB_m u v bp cp,c,ch⟩) 0 ⟨j,c,ch,rfl⟩ ?_
    rintro M s ⟨j,c,ch,rfl⟩
    rw[show cAt [1,0,0] (bdy Try.f36)= .seq (cAt [1,0,0,0] (bdy Try.f36)) (cAt [1,0,0,1] (bdy Try.f36)) from by kernel_rfl]
    refine runs_seq (sAd1_o u v bp cp j) (fun s hh=>absurd hh.1 (by simp)) (fun e s hne hh=> ?_)
    obtain⟨rfl,_⟩:=hh
    exact .inr ⟨by simp,rfl⟩
theorem dn_slc {n M:Nat} (bp:Option Addr) (l c:Nat):∃ bq,dn n M (.slice bp l c)= .slice bq l c:=by
  cases bp with
  |none=>exact⟨none,rfl⟩
  | some a =>
    obtain⟨i,o,s⟩:=a
    cases s with
    | none =>
      simp only[dn]
      split
      · exact⟨_,rfl⟩
      · exact⟨_,rfl⟩
    |some s=>exact⟨_,rfl⟩
theorem dn_np {n M:Nat} {v:Value} (h:np v=true):dn n M v=v:=by
  cases v with
  |slice a l c=>cases a<;>first|rfl|(simp[np] at h)
  |_=>first|rfl|(simp[np] at h)
theorem sAd_h (mem:List Mb) (u v:Value) (bp:Option Addr) (cp ng:Nat) (hu:okp mem.length u=true) (hb:okp mem.length (.slice bp 0 cp)=true) (hv:np v=true):Hides Try.prog 36 mem [u,.slice bp 0 cp,v] (fun r=>r= .tuple #[]) ng:=
  hides_far rfl (by
    show(Go.Ev.okp mem.length u && (Go.Ev.okp mem.length (.slice bp 0 cp) && (Go.Ev.okp mem.length v && true)))=true
    rw[hu,hb,okp_np hv];rfl) (fun M hM _=>by
    obtain⟨bq,e⟩:=dn_slc (n:=0) (M:=M) bp 0 cp
    show Reads Try.prog _ [] [dn 0 M u,dn 0 M (.slice bp 0 cp),dn 0 M v] _
    rw[e,dn_np hv]
    exact sAd_c _ v bq cp (dn_ok hM hu) (by rw[← e];exact dn_ok hM hb) hv)
def sSlA_h (i:Nat):Hn:=if i=7 then⟨0,[(0,true),(1,true),(4,true),(2,false),(3,true),(5,false)],[],[0,1,2,3,4],[]⟩ else⟨0,[],[],[],[]⟩
abbrev sSlA_R (w:List Nat) (S:FS) (e:Exit) (K:FS→Prop):Prop:=Rn Try.prog (cAt w (bdy Try.f19)) S e K 0
structure sSlA_c (K N:List Int):Prop where
  hK:By K
  hN:By N
variable {N:List Int} {k_4:sSlA_c K N}
abbrev sSlA (_:sSlA_c K N):FS:=⟨true,51,[(0,.agg (wA .u8 32 K)),(1,.agg (wA .u8 12 N)),(2,.slice none 0 0),(3,.slice none 0 0)],[]⟩
abbrev sSlB (_:sSlA_c K N):FS:=⟨false,51,[(2,.slice none 0 0),(3,.slice none 0 0),(4,.pointer (some ⟨0,0,none⟩)),(5,.pointer (some ⟨1,0,none⟩))],[((wA .u8 32 K),(27,(0,0))),((wA .u8 12 N),(28,(0,0)))]⟩
theorem sSl0:sSlA_R [0] (sSlA k_4) .normal (fun z_=>z_=sSlB k_4):=by
  exact rn_ev (yty.en tabW3) sSlA_h mixed _ none [] [] 2 (fun j M=>by kernel_rfl) A0 rfl
theorem sSl1:sSlA_R [1,0] (sSlB k_4) .normal (fun z_=>z_=sSlB k_4):=by
  exact rn_ev (yty.en tabW3) sSlA_h mixed _ none [] [] 8 (fun j M=>by kernel_rfl) A0 rfl
structure sSlC_c (_:sSlA_c K N) (B V:List Int):Prop where
  hB:B=kyL K N 0 2
  hV:V=kyL K N 2 4
variable {B V:List Int} {k_5:sSlC_c k_4 B V}
abbrev sSlC (_:sSlC_c k_4 B V):FS:=⟨false,51,[(2,.slice none 0 0),(3,.slice none 0 0),(4,.pointer (some ⟨0,0,none⟩)),(5,.pointer (some ⟨1,0,none⟩)),(10,.pointer (some ⟨2,0,none⟩)),(11,.pointer (some ⟨3,0,none⟩))],[((wA .u8 32 K),(27,(0,0))),((wA .u8 12 N),(28,(0,0))),((wA .u8 16 B),(22,(0,0))),((wA .u8 32 V),(27,(0,0)))]⟩
theorem sSl2:sSlA_R [1,1,0] (sSlB k_4) .normal (fun z_=>∃(k_5:sSlC_c k_4 (kyL (dL8 (wA .u8 32 K)) (dL8 (wA .u8 12 N)) 0 2) (kyL (dL8 (wA .u8 32 K)) (dL8 (wA .u8 12 N)) 2 4)),z_=sSlC k_5):=by
  have⟨hK,hN⟩:=id k_4
  exact rn_ev (yty.en tabW3) sSlA_h mixed _ none [] [(4,(((wA .u8 32 K)=wA .u8 32 (dL8 (wA .u8 32 K))∧By (dL8 (wA .u8 32 K)))∧((wA .u8 12 N)=wA .u8 12 (dL8 (wA .u8 12 N))∧By (dL8 (wA .u8 12 N))))),(6,((wA .u8 16 (kyL (dL8 (wA .u8 32 K)) (dL8 (wA .u8 12 N)) 0 2)).all (fun v=>v.oneCell')=true)),(0,((wA .u8 32 (kyL (dL8 (wA .u8 32 K)) (dL8 (wA .u8 12 N)) 2 4)).all (fun v=>v.oneCell')=true))] 0 (fun j M=>by kernel_rfl) (A1 ⟨dq hK,dq hN⟩ (A1 (wA_one _ _ _) (A1 (wA_one _ _ _) A0))) ⟨⟨kyL_w _ _ _ _,kyL_w _ _ _ _⟩,rfl⟩
structure sSlD_c (_:sSlC_c k_4 B V) (G:List Int):Prop where
  hG:G=tagL B V N [] []
variable {G:List Int} {k_6:sSlD_c k_5 G}
abbrev sSlD (_:sSlD_c k_5 G):FS:=⟨false,51,[(2,.slice none 0 0),(3,.slice none 0 0),(4,.pointer (some ⟨0,0,none⟩)),(5,.pointer (some ⟨1,0,none⟩)),(10,.pointer (some ⟨2,0,none⟩)),(11,.pointer (some ⟨3,0,none⟩)),(12,.pointer (some ⟨4,0,none⟩))],[((wA .u8 32 K),(27,(0,0))),((wA .u8 12 N),(28,(0,0))),((wA .u8 16 B),(22,(0,0))),((wA .u8 32 V),(27,(0,0))),((wA .u8 16 G),(22,(0,0)))]⟩
theorem tsL_w (HB A X:List Int):tsL (dL8 (wA .u8 16 HB)) A X=tsL HB A X:=by
  have h:∀ S L,absL (dL8 (wA .u8 16 HB)) S L=absL HB S L:=fun S L=>by rw[← absL_w1,absL_w]
  unfold tsL
  rw[h,h,h]
theorem tagL_w (HB TK N A X:List Int):tagL (dL8 (wA .u8 16 HB)) (dL8 (wA .u8 32 TK)) (dL8 (wA .u8 12 N)) A X=tagL HB TK N A X:=by
  have h:xrv (tsL HB A X) (dL8 (wA .u8 12 N)) 12=xrv (tsL HB A X) N 12:=List.map_congr_left fun k _=>by
    by_cases hk:k<12
    · rw[if_pos hk,if_pos hk,dL8_wA,if_pos hk]
    · rw[if_neg hk,if_neg hk]
  unfold tagL
  rw[tsL_w,h,← encL_q TK,← encL_q (dL8 (wA .u8 32 TK)),← dL8_self 32 TK]
theorem tagL_len (HB TK N A X:List Int):(tagL HB TK N A X).length=16:=by simp[tagL,encL,addL]
theorem tagL_by (HB TK N A X:List Int):By (tagL HB TK N A X):=encL_by _ _
theorem sSl3:sSlA_R [1,1,1,0] (sSlC k_5) .normal (fun z_=>∃(k_6:sSlD_c k_5 (tagL (dL8 (wA .u8 16 B)) (dL8 (wA .u8 32 V)) (dL8 (wA .u8 12 N)) (bOf [((wA .u8 32 K),(27,(0,0))),((wA .u8 12 N),(28,(0,0))),((wA .u8 16 B),(22,(0,0))),((wA .u8 32 V),(27,(0,0)))] none 0) (bOf [((wA .u8 32 K),(27,(0,0))),((wA .u8 12 N),(28,(0,0))),((wA .u8 16 B),(22,(0,0))),((wA .u8 32 V),(27,(0,0)))] none 0))),z_=sSlD k_6):=by
  have⟨hK,hN⟩:=id k_4
  have⟨hB,hV⟩:=id k_5
  exact rn_ev (yty.en tabW3) sSlA_h mixed _ none [] [(10,((((wA .u8 16 B)=wA .u8 16 (dL8 (wA .u8 16 B))∧By (dL8 (wA .u8 16 B)))∧((wA .u8 32 V)=wA .u8 32 (dL8 (wA .u8 32 V))∧By (dL8 (wA .u8 32 V)))∧((wA .u8 12 N)=wA .u8 12 (dL8 (wA .u8 12 N))∧By (dL8 (wA .u8 12 N))))∧(BkOk [((wA .u8 32 K),(27,(0,0))),((wA .u8 12 N),(28,(0,0))),((wA .u8 16 B),(22,(0,0))),((wA .u8 32 V),(27,(0,0)))] none 0 0∧BkOk [((wA .u8 32 K),(27,(0,0))),((wA .u8 12 N),(28,(0,0))),((wA .u8 16 B),(22,(0,0))),((wA .u8 32 V),(27,(0,0)))] none 0 0)∧0≤1000000000∧0≤1000000000)),(0,((wA .u8 16 (tagL (dL8 (wA .u8 16 B)) (dL8 (wA .u8 32 V)) (dL8 (wA .u8 12 N)) (bOf [((wA .u8 32 K),(27,(0,0))),((wA .u8 12 N),(28,(0,0))),((wA .u8 16 B),(22,(0,0))),((wA .u8 32 V),(27,(0,0)))] none 0) (bOf [((wA .u8 32 K),(27,(0,0))),((wA .u8 12 N),(28,(0,0))),((wA .u8 16 B),(22,(0,0))),((wA .u8 32 V),(27,(0,0)))] none 0))).all (fun v=>v.oneCell')=true))] 0 (fun j M=>by kernel_rfl) (A1 ⟨⟨dq (by rw[hB];exact kyL_by _ _ _ _),dq (by rw[hV];exact kyL_by _ _ _ _),dq hN⟩,⟨⟨by decide,.inl ⟨rfl,rfl,rfl⟩⟩,⟨by decide,.inl ⟨rfl,rfl,rfl⟩⟩⟩,by decide,by decide⟩ (A1 (wA_one _ _ _) A0)) ⟨⟨tagL_w _ _ _ _ _⟩,rfl⟩
abbrev sSlE (_:sSlD_c k_5 G):FS:=⟨false,51,[(2,.slice none 0 0),(3,.slice none 0 0),(4,.pointer (some ⟨0,0,none⟩)),(5,.pointer (some ⟨1,0,none⟩)),(10,.pointer (some ⟨2,0,none⟩)),(11,.pointer (some ⟨3,0,none⟩)),(12,.pointer (some ⟨4,0,none⟩)),(13,.slice (some ⟨5,0,none⟩) 16 16)],[((wA .u8 32 K),(27,(0,0))),((wA .u8 12 N),(28,(0,0))),((wA .u8 16 B),(22,(0,0))),((wA .u8 32 V),(27,(0,0))),((wA .u8 16 G),(22,(0,0))),((wA .u8 16 []),(5,(0,0)))]⟩
theorem sSl4:sSlA_R [1,1,1,1,0] (sSlD k_6) .normal (fun z_=>z_=sSlE k_6):=by
  exact rn_ev (yty.en tabW3) sSlA_h mixed _ none [] [(6,((0:Int)≤16∧(16:Int)=16∧1*Int.toNat 16≤281474976710656∧Int.toNat 16≤9223372036854775807))] 1 (fun j M=>by kernel_rfl) (A1 ⟨by decide,rfl,by decide,by decide⟩ A0) rfl
abbrev sSlE_s (K N:List Int) (B V:List Int) (G:List Int) (j:Nat→Value):List Value:=([j 0,j 1,.slice none 0 0,.slice none 0 0,.pointer (some ⟨0,0,none⟩),.pointer (some ⟨1,0,none⟩)] ++ (J j 6 4 ++ ([.pointer (some ⟨2,0,none⟩),.pointer (some ⟨3,0,none⟩),.pointer (some ⟨4,0,none⟩),.slice (some ⟨5,0,none⟩) 16 16] ++ (J j 14 37))))
abbrev sSlE_m (K N:List Int) (B V:List Int) (G:List Int):List Mb:= [((wA .u8 32 K),(27,(0,0))),((wA .u8 12 N),(28,(0,0))),((wA .u8 16 B),(22,(0,0))),((wA .u8 32 V),(27,(0,0))),((wA .u8 16 G),(22,(0,0))),((wA .u8 16 []),(5,(0,0)))]
def sSl5_op_m0 (K N:List Int) (B V:List Int) (G:List Int) (j:Nat→Value):List Value:=([j 0,j 1,.slice none 0 0,.slice none 0 0,.pointer (some ⟨0,0,none⟩),.pointer (some ⟨1,0,none⟩)] ++ (J j 6 4 ++ ([.pointer (some ⟨2,0,none⟩),.pointer (some ⟨3,0,none⟩),.pointer (some ⟨4,0,none⟩),.slice (some ⟨5,0,none⟩) 16 16] ++ (J j 14 24 ++ ([.slice (some ⟨5,0,none⟩) 16 16,.slice none 0 0,.agg (wA .u8 32 V),.agg (wA .u8 16 G)] ++ (J j 42 9))))))
theorem sSl5_op_0 (K N:List Int) (B V:List Int) (G:List Int) (j:Nat→Value):evL (yty.en tabW3) (oT (cAt [1,1,1,1,1,0] (bdy Try.f19))) ((oT (cAt [1,1,1,1,1,0] (bdy Try.f19))).toList.take 4) ⟨sSlE_s K N B V G j,sSlE_m K N B V G,True,[]⟩=some ⟨sSl5_op_m0 K N B V G j,[((wA .u8 32 K),(27,(0,0))),((wA .u8 12 N),(28,(0,0))),((wA .u8 16 B),(22,(0,0))),((wA .u8 32 V),(27,(0,0))),((wA .u8 16 G),(22,(0,0))),((wA .u8 16 []),(5,(0,0)))],((((True∧True)∧True)∧True)∧True),[]⟩:=by kernel_rfl
def sSl5_op_m1 (K N:List Int) (B V:List Int) (G:List Int) (j:Nat→Value) (f1:Fn) (x1 y1:Array Value):List Value:=([j 0,j 1,.slice none 0 0,.slice none 0 0,.pointer (some ⟨0,0,none⟩),.pointer (some ⟨1,0,none⟩)] ++ (J j 6 4 ++ ([.pointer (some ⟨2,0,none⟩),.pointer (some ⟨3,0,none⟩),.pointer (some ⟨4,0,none⟩),.slice (some ⟨5,0,none⟩) 16 16] ++ (J j 14 24 ++ ([.slice (some ⟨5,0,none⟩) 16 16,.slice none 0 0,.agg (wA .u8 32 V),.agg (wA .u8 16 G),(.func f1 x1 y1)] ++ (J j 43 8))))))
theorem sSl5_op_1 (K N:List Int) (B V:List Int) (G:List Int) (j:Nat→Value) (f1:Fn) (x1 y1:Array Value):evL (yty.en tabW3) (oT (cAt [1,1,1,1,1,0] (bdy Try.f19))) (((oT (cAt [1,1,1,1,1,0] (bdy Try.f19))).toList.drop 5).take 0) ⟨putS (sSl5_op_m0 K N B V G j) (some 42) (.func f1 x1 y1),[((wA .u8 32 K),(27,(0,0))),((wA .u8 12 N),(28,(0,0))),((wA .u8 16 B),(22,(0,0))),((wA .u8 32 V),(27,(0,0))),((wA .u8 16 G),(22,(0,0))),((wA .u8 16 []),(5,(0,0)))],True,[]⟩=some ⟨sSl5_op_m1 K N B V G j f1 x1 y1,[((wA .u8 32 K),(27,(0,0))),((wA .u8 12 N),(28,(0,0))),((wA .u8 16 B),(22,(0,0))),((wA .u8 32 V),(27,(0,0))),((wA .u8 16 G),(22,(0,0))),((wA .u8 16 []),(5,(0,0)))],True,[]⟩:=by kernel_rfl
def sSl5_op_b (K N:List Int) (B V:List Int) (G:List Int) (j:Nat→Value) (f1:Fn) (x1 y1:Array Value):List Value:=([j 0,j 1,.slice none 0 0,.slice none 0 0,.pointer (some ⟨0,0,none⟩),.pointer (some ⟨1,0,none⟩)] ++ (J j 6 4 ++ ([.pointer (some ⟨2,0,none⟩),.pointer (some ⟨3,0,none⟩),.pointer (some ⟨4,0,none⟩),.slice (some ⟨5,0,none⟩) 16 16] ++ (J j 14 24 ++ ([.slice (some ⟨5,0,none⟩) 16 16,.slice none 0 0,.agg (wA .u8 32 V),.agg (wA .u8 16 G),(.func f1 x1 y1),(.tuple #[])] ++ (J j 44 7))))))
theorem sSl5_op_e (K N:List Int) (B V:List Int) (G:List Int) (j:Nat→Value) (f1:Fn) (x1 y1:Array Value):evL (yty.en tabW3) (oT (cAt [1,1,1,1,1,0] (bdy Try.f19))) (((oT (cAt [1,1,1,1,1,0] (bdy Try.f19))).toList.drop 5).drop 1) ⟨putS (sSl5_op_m1 K N B V G j f1 x1 y1) (some 43) (.tuple #[]),[((wA .u8 32 K),(27,(0,0))),((wA .u8 12 N),(28,(0,0))),((wA .u8 16 B),(22,(0,0))),((wA .u8 32 V),(27,(0,0))),((wA .u8 16 G),(22,(0,0))),((wA .u8 16 []),(5,(0,0)))],True,[]⟩=some ⟨sSl5_op_b K N B V G j f1 x1 y1,[((wA .u8 32 K),(27,(0,0))),((wA .u8 12 N),(28,(0,0))),((wA .u8 16 B),(22,(0,0))),((wA .u8 32 V),(27,(0,0))),((wA .u8 16 G),(22,(0,0))),((wA .u8 16 []),(5,(0,0)))],True,[]⟩:=by kernel_rfl
theorem sSl5_o (K N:List Int) (B V:List Int) (G:List Int) (j:Nat→Value) (hK:By K) (hN:By N) (hB:B=kyL K N 0 2) (hV:V=kyL K N 2 4) (hG:G=tagL B V N [] [])  {c0:Prop} {ch0:List (Option Value)}:Runs Try.prog (cAt [1,1,1,1,1,0] (bdy Try.f19)) ⟨sSlE_s K N B V G j,sSlE_m K N B V G,c0,ch0⟩ (fun e s=>e= .normal∧∃(j:Nat→Value) (c:Prop) (ch:List (Option Value)),s=⟨sSlE_s K N B V G j,sSlE_m K N B V G,c,ch⟩) 0:=by
  refine runs_region (K:=fun s=>∃(j:Nat→Value) (c:Prop) (ch:List (Option Value)),s=⟨sSlE_s K N B V G j,sSlE_m K N B V G,c,ch⟩) (by kernel_rfl) ?_
  refine runsL_callHS (E:=(yty.en tabW3)) (f:=37) (xs:= [.tmp 40,.tmp 41]) (d:=(some 42)) (G:=fun v=>∃ f x y,v= .func f x y) 4 (sSl5_op_0 K N B V G j) ⟨⟨⟨⟨trivial,trivial⟩,trivial⟩,trivial⟩,trivial⟩ (by kernel_rfl) (call_of Try.func37 (by kernel_rfl) (by kernel_rfl)) rfl (sSt_h _ _ _ _) (fun v1 c ch hv1 hg1=> ?_)
  obtain⟨f1,x1,y1,rfl⟩:=hg1
  refine runsL_callHS (E:=(yty.en tabW3)) (f:=36) (xs:= [.tmp 38,.tmp 39,.tmp 42]) (d:=(some 43)) (G:=fun v=>v= .tuple #[]) 0 (sSl5_op_1 K N B V G j f1 x1 y1) trivial (by kernel_rfl) (call_of Try.func36 (by kernel_rfl) (by kernel_rfl)) rfl (sAd_h _ _ _ _ _ _ (by kernel_rfl) (by kernel_rfl) rfl) (fun v2 c ch hv2 hg2=> ?_)
  subst hg2
  refine(runsL_ev _ (sSl5_op_e K N B V G j f1 x1 y1) trivial).mono ?_
  rintro s hs
  refine⟨fun q=>s.tm.getD q undef,s.c,s.ch,?_⟩
  subst hs
  kernel_rfl
theorem sSl5:sSlA_R [1,1,1,1,1,0] (sSlE k_6) .normal (fun z_=>z_=sSlE k_6):=by
  have⟨hK,hN⟩:=id k_4
  have⟨hB,hV⟩:=id k_5
  have⟨hG⟩:=id k_6
  refine fun j c0 ch0=> ?_
  rw[show(sSlE k_6).at j c0 ch0=⟨sSlE_s K N B V G j,sSlE_m K N B V G,c0,ch0⟩ from by kernel_rfl]
  refine(sSl5_o K N B V G j hK hN hB hV hG ).mono ?_
  rintro e s ⟨h_,j,c,ch,hs_⟩
  exact⟨_,⟨h_,rfl⟩,j,c,ch,hs_.trans (by kernel_rfl)⟩
abbrev sSlF (_:sSlD_c k_5 G):FS:=⟨false,51,[(2,.slice none 0 0),(3,.slice none 0 0),(4,.pointer (some ⟨0,0,none⟩)),(5,.pointer (some ⟨1,0,none⟩)),(10,.pointer (some ⟨2,0,none⟩)),(11,.pointer (some ⟨3,0,none⟩)),(12,.pointer (some ⟨4,0,none⟩)),(13,.slice (some ⟨5,0,none⟩) 16 16)],[((wA .u8 32 K),(27,(0,0))),((wA .u8 12 N),(28,(0,0))),((wA .u8 16 B),(22,(0,0))),((wA .u8 32 V),(27,(0,0))),((wA .u8 16 G),(22,(0,0))),((wA .u8 16 G),(5,(0,0)))]⟩
theorem sSl6:sSlA_R [1,1,1,1,1,1,0] (sSlE k_6) .normal (fun z_=>z_=sSlF k_6):=by
  have⟨hK,hN⟩:=id k_4
  have⟨hB,hV⟩:=id k_5
  have⟨hG⟩:=id k_6
  exact rn_ev (yty.en tabW3) sSlA_h mixed _ none [some (.agg (wA .u8 16 G))] [(8,((((0:Int)≤0)∧True)∧0≤16∧16≤16)),(0,((0+Nat.min 16 16≤(wA .u8 16 []).size∧0+Nat.min 16 16≤(wA .u8 16 G).size)∧((wA .u8 16 G).extract 0 (0+Nat.min 16 16)).all (fun v=>v.oneCell')=true∧Calm.splice (wA .u8 16 []) 0 ((wA .u8 16 G).extract 0 (0+Nat.min 16 16))=(wA .u8 16 G)))] 0 (fun j M=>by kernel_rfl) (A1 ⟨⟨(by decide),trivial⟩,(by decide),(by decide)⟩ (A1 (spl_w (k:=16) rfl (by decide) (by decide) (fun i hi=>by rw[if_pos (by omega)];congr 1;omega)) A0)) rfl
abbrev sSlG (_:sSlD_c k_5 G):FS:=⟨false,51,[(8,.slice (some ⟨5,0,none⟩) 16 16),(9,.int .i64 0)],[((wA .u8 32 K),(27,(0,0))),((wA .u8 12 N),(28,(0,0))),((wA .u8 16 B),(22,(0,0))),((wA .u8 32 V),(27,(0,0))),((wA .u8 16 G),(22,(0,0))),((wA .u8 16 G),(5,(0,0)))]⟩
theorem sSl7:sSlA_R [1,1,1,1,1,1,1] (sSlF k_6) .ret (fun z_=>z_=sSlG k_6):=by
  exact rn_ev (yty.en tabW3) sSlA_h mixed _ none [] [] 3 (fun j M=>by kernel_rfl) A0 rfl
theorem sSlu':sSlA_R [] (sSlA k_4) .ret (fun z_=>∃(k_5:sSlC_c k_4 (kyL (dL8 (wA .u8 32 K)) (dL8 (wA .u8 12 N)) 0 2) (kyL (dL8 (wA .u8 32 K)) (dL8 (wA .u8 12 N)) 2 4)) (k_6:sSlD_c k_5 (tagL (dL8 (wA .u8 16 (kyL (dL8 (wA .u8 32 K)) (dL8 (wA .u8 12 N)) 0 2))) (dL8 (wA .u8 32 (kyL (dL8 (wA .u8 32 K)) (dL8 (wA .u8 12 N)) 2 4))) (dL8 (wA .u8 12 N)) (bOf [((wA .u8 32 K),(27,(0,0))),((wA .u8 12 N),(28,(0,0))),((wA .u8 16 (kyL (dL8 (wA .u8 32 K)) (dL8 (wA .u8 12 N)) 0 2)),(22,(0,0))),((wA .u8 32 (kyL (dL8 (wA .u8 32 K)) (dL8 (wA .u8 12 N)) 2 4)),(27,(0,0)))] none 0) (bOf [((wA .u8 32 K),(27,(0,0))),((wA .u8 12 N),(28,(0,0))),((wA .u8 16 (kyL (dL8 (wA .u8 32 K)) (dL8 (wA .u8 12 N)) 0 2)),(22,(0,0))),((wA .u8 32 (kyL (dL8 (wA .u8 32 K)) (dL8 (wA .u8 12 N)) 2 4)),(27,(0,0)))] none 0))),z_=sSlG k_6):=by
  refine rn_seq (w:= []) (by kernel_rfl) sSl0 ?_
  rintro _ rfl
  refine rn_seq (w:= [1]) (by kernel_rfl) sSl1 ?_
  rintro _ rfl
  refine rn_seq (w:= [1,1]) (by kernel_rfl) sSl2 ?_
  rintro _ ⟨k_5,rfl⟩
  refine rn_seq (w:= [1,1,1]) (by kernel_rfl) sSl3 ?_
  rintro _ ⟨k_6,rfl⟩
  refine rn_seq (w:= [1,1,1,1]) (by kernel_rfl) sSl4 ?_
  rintro _ rfl
  refine rn_seq (w:= [1,1,1,1,1]) (by kernel_rfl) sSl5 ?_
  rintro _ rfl
  refine rn_seq (w:= [1,1,1,1,1,1]) (by kernel_rfl) sSl6 ?_
  rintro _ rfl
  exact(sSl7).mono fun _ e_=>⟨k_5,k_6,e_⟩
abbrev sSlA_s (K N:List Int) (j:Nat→Value):List Value:=([.agg (wA .u8 32 K),.agg (wA .u8 12 N),.slice none 0 0,.slice none 0 0] ++ (JU 47))
abbrev sSlA_m (K N:List Int):List Mb:= []
abbrev sSlG_s (K N:List Int) (B V:List Int) (G:List Int) (j:Nat→Value):List Value:=(J j 0 8 ++ ([.slice (some ⟨5,0,none⟩) 16 16,.int .i64 0] ++ (J j 10 41)))
abbrev sSlG_m (K N:List Int) (B V:List Int) (G:List Int):List Mb:= [((wA .u8 32 K),(27,(0,0))),((wA .u8 12 N),(28,(0,0))),((wA .u8 16 B),(22,(0,0))),((wA .u8 32 V),(27,(0,0))),((wA .u8 16 G),(22,(0,0))),((wA .u8 16 G),(5,(0,0)))]
theorem sSlu (K N:List Int) (j:Nat→Value) (hK:By K) (hN:By N)  {c0:Prop} {ch0:List (Option Value)}:Runs Try.prog (cAt [] (bdy Try.f19)) ⟨sSlA_s K N j,sSlA_m K N,c0,ch0⟩ (fun e s=>e= .ret∧∃(j:Nat→Value) (c:Prop) (ch:List (Option Value)),((kyL (dL8 (wA .u8 32 K)) (dL8 (wA .u8 12 N)) 0 2)=kyL K N 0 2)∧((kyL (dL8 (wA .u8 32 K)) (dL8 (wA .u8 12 N)) 2 4)=kyL K N 2 4)∧((tagL (dL8 (wA .u8 16 (kyL (dL8 (wA .u8 32 K)) (dL8 (wA .u8 12 N)) 0 2))) (dL8 (wA .u8 32 (kyL (dL8 (wA .u8 32 K)) (dL8 (wA .u8 12 N)) 2 4))) (dL8 (wA .u8 12 N)) (bOf [((wA .u8 32 K),(27,(0,0))),((wA .u8 12 N),(28,(0,0))),((wA .u8 16 (kyL (dL8 (wA .u8 32 K)) (dL8 (wA .u8 12 N)) 0 2)),(22,(0,0))),((wA .u8 32 (kyL (dL8 (wA .u8 32 K)) (dL8 (wA .u8 12 N)) 2 4)),(27,(0,0)))] none 0) (bOf [((wA .u8 32 K),(27,(0,0))),((wA .u8 12 N),(28,(0,0))),((wA .u8 16 (kyL (dL8 (wA .u8 32 K)) (dL8 (wA .u8 12 N)) 0 2)),(22,(0,0))),((wA .u8 32 (kyL (dL8 (wA .u8 32 K)) (dL8 (wA .u8 12 N)) 2 4)),(27,(0,0)))] none 0))=tagL (kyL (dL8 (wA .u8 32 K)) (dL8 (wA .u8 12 N)) 0 2) (kyL (dL8 (wA .u8 32 K)) (dL8 (wA .u8 12 N)) 2 4) N [] [])∧s=⟨sSlG_s K N (kyL (dL8 (wA .u8 32 K)) (dL8 (wA .u8 12 N)) 0 2) (kyL (dL8 (wA .u8 32 K)) (dL8 (wA .u8 12 N)) 2 4) (tagL (dL8 (wA .u8 16 (kyL (dL8 (wA .u8 32 K)) (dL8 (wA .u8 12 N)) 0 2))) (dL8 (wA .u8 32 (kyL (dL8 (wA .u8 32 K)) (dL8 (wA .u8 12 N)) 2 4))) (dL8 (wA .u8 12 N)) (bOf [((wA .u8 32 K),(27,(0,0))),((wA .u8 12 N),(28,(0,0))),((wA .u8 16 (kyL (dL8 (wA .u8 32 K)) (dL8 (wA .u8 12 N)) 0 2)),(22,(0,0))),((wA .u8 32 (kyL (dL8 (wA .u8 32 K)) (dL8 (wA .u8 12 N)) 2 4)),(27,(0,0)))] none 0) (bOf [((wA .u8 32 K),(27,(0,0))),((wA .u8 12 N),(28,(0,0))),((wA .u8 16 (kyL (dL8 (wA .u8 32 K)) (dL8 (wA .u8 12 N)) 0 2)),(22,(0,0))),((wA .u8 32 (kyL (dL8 (wA .u8 32 K)) (dL8 (wA .u8 12 N)) 2 4)),(27,(0,0)))] none 0)) j,sSlG_m K N (kyL (dL8 (wA .u8 32 K)) (dL8 (wA .u8 12 N)) 0 2) (kyL (dL8 (wA .u8 32 K)) (dL8 (wA .u8 12 N)) 2 4) (tagL (dL8 (wA .u8 16 (kyL (dL8 (wA .u8 32 K)) (dL8 (wA .u8 12 N)) 0 2))) (dL8 (wA .u8 32 (kyL (dL8 (wA .u8 32 K)) (dL8 (wA .u8 12 N)) 2 4))) (dL8 (wA .u8 12 N)) (bOf [((wA .u8 32 K),(27,(0,0))),((wA .u8 12 N),(28,(0,0))),((wA .u8 16 (kyL (dL8 (wA .u8 32 K)) (dL8 (wA .u8 12 N)) 0 2)),(22,(0,0))),((wA .u8 32 (kyL (dL8 (wA .u8 32 K)) (dL8 (wA .u8 12 N)) 2 4)),(27,(0,0)))] none 0) (bOf [((wA .u8 32 K),(27,(0,0))),((wA .u8 12 N),(28,(0,0))),((wA .u8 16 (kyL (dL8 (wA .u8 32 K)) (dL8 (wA .u8 12 N)) 0 2)),(22,(0,0))),((wA .u8 32 (kyL (dL8 (wA .u8 32 K)) (dL8 (wA .u8 12 N)) 2 4)),(27,(0,0)))] none 0)),c,ch⟩) 0:=by
  refine(Rn.old (sSlu' (k_4:=(⟨hK,hN⟩:sSlA_c K N))) j (by kernel_rfl)).mono ?_
  rintro e s ⟨rfl,_,⟨k_5,k_6,rfl⟩,j,c,ch,rfl⟩
  have⟨x_hB,x_hV⟩:=k_5
  have⟨x_hG⟩:=k_6
  exact⟨rfl,j,c,ch,x_hB,x_hV,x_hG,by kernel_rfl⟩
def sealL (K N:List Int):List Int:=tagL (kyL K N 0 2) (kyL K N 2 4) N [] []
theorem sSl_c (K N:List Int) (hK:By K) (hN:By N) (mem:List Mb) (ng:Nat):MakesT Try.prog 19 mem [.agg (wA .u8 32 K),.agg (wA .u8 12 N),.slice none 0 0,.slice none 0 0] .u8 16 (sealL K N) 5 (.int .i64 0) ng:=fun w β _ _=>
  makesT_runs (fk:=0) (mem:= []) Try.func19 (c:=bdy Try.f19) (by kernel_rfl) ⟨rfl,by decide⟩ (args:= [.agg (wA .u8 32 K),.agg (wA .u8 12 N),.slice none 0 0,.slice none 0 0]) (by kernel_rfl) (r:=8) (r2:=9) (by kernel_rfl) (sSlu K N (fun _=>undef) hK hN) (fun e s h=>by
    obtain⟨rfl,j,c,ch,hB,hV,hG,rfl⟩:=h
    refine⟨rfl,rfl,rfl,5,16,by decide,by rw[sealL,tagL_len];decide,rfl,?_⟩
    rw[← (show _=sealL K N from hG.trans (by rw[hB,hV];rfl))]
    rfl) w β (fun i x hx=>by simp at hx) (fun i hi=>by simp at hi)
end Go.Proofs.Ythldpfindbhkeaa

set_option linter.unusedSimpArgs false
set_option linter.unusedVariables false
/-! siv: nothing opened. -/
namespace Go.Proofs.Ythldpfindbhkeaa
open Go.RowKit Go.Ev
theorem isBL_w (n:Nat) (L:List Int):isBL n (wA .u8 n L):=⟨(List.range n).map fun i=>L.getD i 0,by simp,by simp[wA,Function.comp_def]⟩
def sOpA_h (i:Nat):Hn:=if i=9 then⟨8,[],[],[],[]⟩ else if i=10 then⟨8,[],[],[],[]⟩ else⟨0,[],[],[],[]⟩
abbrev sOpA_R (w:List Nat) (S:FS) (e:Exit) (K:FS→Prop):Prop:=Rn Try.prog (cAt w (bdy Try.f21)) S e K 1
structure sOpA_c (K N S:List Int) (cp:Nat) (t:Tq):Prop where
  hK:By K
  hN:By N
  hS:By S
  hc:16≤cp
  hT:S=sealL K N
variable {K N S:List Int} {cp:Nat} {t:Tq} {k_1:sOpA_c K N S cp t}
abbrev sOpA (_:sOpA_c K N S cp t):FS:=⟨true,59,[(0,.agg (wA .u8 32 K)),(1,.agg (wA .u8 12 N)),(2,.slice none 0 0),(3,.slice (some ⟨0,0,none⟩) 16 cp)],[((wA .u8 cp S),t)]⟩
abbrev sOpB (_:sOpA_c K N S cp t):FS:=⟨false,59,[(2,.slice none 0 0),(3,.slice (some ⟨0,0,none⟩) 16 cp),(4,.pointer (some ⟨1,0,none⟩)),(5,.pointer (some ⟨2,0,none⟩))],[((wA .u8 cp S),t),((wA .u8 32 K),(27,(0,0))),((wA .u8 12 N),(28,(0,0)))]⟩
theorem sOp0:sOpA_R [0] (sOpA k_1) .normal (fun z_=>z_=sOpB k_1):=by
  exact rn_ev (yty.enf tabW3 1) sOpA_h mixed _ none [] [] 2 (fun j M=>by kernel_rfl) A0 rfl
theorem sOp1:sOpA_R [1,0] (sOpB k_1) .normal (fun z_=>z_=sOpB k_1):=by
  exact rn_ev (yty.enf tabW3 1) sOpA_h mixed _ none [] [] 8 (fun j M=>by kernel_rfl) A0 rfl
theorem sOp2:sOpA_R [1,1,0] (sOpB k_1) .normal (fun z_=>z_=sOpB k_1):=by
  exact rn_ev (yty.enf tabW3 1) sOpA_h mixed _ none [] [] 3 (fun j M=>by kernel_rfl) A0 rfl
structure sOpC_c (_:sOpA_c K N S cp t) (B V:List Int):Prop where
  hB:B=kyL K N 0 2
  hV:V=kyL K N 2 4
variable {B V:List Int} {k_2:sOpC_c k_1 B V}
abbrev sOpC (_:sOpC_c k_1 B V):FS:=⟨false,59,[(2,.slice none 0 0),(3,.slice (some ⟨0,0,none⟩) 16 cp),(4,.pointer (some ⟨1,0,none⟩)),(5,.pointer (some ⟨2,0,none⟩)),(10,.pointer (some ⟨3,0,none⟩)),(11,.pointer (some ⟨4,0,none⟩))],[((wA .u8 cp S),t),((wA .u8 32 K),(27,(0,0))),((wA .u8 12 N),(28,(0,0))),((wA .u8 16 B),(22,(0,0))),((wA .u8 32 V),(27,(0,0)))]⟩
theorem sOp3:sOpA_R [1,1,1,0] (sOpB k_1) .normal (fun z_=>∃(k_2:sOpC_c k_1 (kyL (dL8 (wA .u8 32 K)) (dL8 (wA .u8 12 N)) 0 2) (kyL (dL8 (wA .u8 32 K)) (dL8 (wA .u8 12 N)) 2 4)),z_=sOpC k_2):=by
  have⟨hK,hN,hS,hc,hT⟩:=id k_1
  exact rn_ev (yty.enf tabW3 1) sOpA_h mixed _ none [] [(4,(((wA .u8 32 K)=wA .u8 32 (dL8 (wA .u8 32 K))∧By (dL8 (wA .u8 32 K)))∧((wA .u8 12 N)=wA .u8 12 (dL8 (wA .u8 12 N))∧By (dL8 (wA .u8 12 N))))),(6,((wA .u8 16 (kyL (dL8 (wA .u8 32 K)) (dL8 (wA .u8 12 N)) 0 2)).all (fun v=>v.oneCell')=true)),(0,((wA .u8 32 (kyL (dL8 (wA .u8 32 K)) (dL8 (wA .u8 12 N)) 2 4)).all (fun v=>v.oneCell')=true))] 0 (fun j M=>by kernel_rfl) (A1 ⟨dq hK,dq hN⟩ (A1 (wA_one _ _ _) (A1 (wA_one _ _ _) A0))) ⟨⟨kyL_w _ _ _ _,kyL_w _ _ _ _⟩,rfl⟩
abbrev sOpD (_:sOpC_c k_1 B V):FS:=⟨false,59,[(2,.slice none 0 0),(3,.slice (some ⟨0,0,none⟩) 16 cp),(4,.pointer (some ⟨1,0,none⟩)),(5,.pointer (some ⟨2,0,none⟩)),(10,.pointer (some ⟨3,0,none⟩)),(11,.pointer (some ⟨4,0,none⟩)),(12,.int .i64 0)],[((wA .u8 cp S),t),((wA .u8 32 K),(27,(0,0))),((wA .u8 12 N),(28,(0,0))),((wA .u8 16 B),(22,(0,0))),((wA .u8 32 V),(27,(0,0)))]⟩
theorem sOp4:sOpA_R [1,1,1,1,0] (sOpC k_2) .normal (fun z_=>z_=sOpD k_2):=by
  exact rn_ev (yty.enf tabW3 1) sOpA_h mixed _ none [] [] 4 (fun j M=>by kernel_rfl) A0 rfl
abbrev sOpE (_:sOpC_c k_1 B V):FS:=⟨false,59,[(2,.slice none 0 0),(3,.slice (some ⟨0,0,none⟩) 16 cp),(4,.pointer (some ⟨1,0,none⟩)),(5,.pointer (some ⟨2,0,none⟩)),(10,.pointer (some ⟨3,0,none⟩)),(11,.pointer (some ⟨4,0,none⟩)),(12,.int .i64 0),(13,.pointer (some ⟨5,0,none⟩))],[((wA .u8 cp S),t),((wA .u8 32 K),(27,(0,0))),((wA .u8 12 N),(28,(0,0))),((wA .u8 16 B),(22,(0,0))),((wA .u8 32 V),(27,(0,0))),((wA .u8 16 S),(22,(0,0)))]⟩
theorem ext16 {S:List Int} {cp p:Nat} (h:16≤cp) (hp:p=0):(wA .u8 cp S).extract (p) (p+16)=wA .u8 16 S∧16=(wA .u8 16 S).size:=by
  subst hp
  refine⟨wA_ext (by rw[Array.size_extract,wA_size];omega) (fun i hi=> ?_),(wA_size _ _ _).symm⟩
  rw[Array.getElem?_extract_of_lt (by rw[wA_size];omega),← wA_at (k:= .u8) (n:=cp) (by omega)]
  rw[Array.getElem?_eq_getElem (by rw[wA_size];omega)]
  simp only[Nat.zero_add]
abbrev sOpD_s (K N S:List Int) (cp:Nat) (t:Tq) (B V:List Int) (j:Nat→Value):List Value:=([j 0,j 1,.slice none 0 0,.slice (some ⟨0,0,none⟩) 16 cp,.pointer (some ⟨1,0,none⟩),.pointer (some ⟨2,0,none⟩)] ++ (J j 6 4 ++ ([.pointer (some ⟨3,0,none⟩),.pointer (some ⟨4,0,none⟩),.int .i64 0] ++ (J j 13 46))))
abbrev sOpD_m (K N S:List Int) (cp:Nat) (t:Tq) (B V:List Int):List Mb:= [((wA .u8 cp S),t),((wA .u8 32 K),(27,(0,0))),((wA .u8 12 N),(28,(0,0))),((wA .u8 16 B),(22,(0,0))),((wA .u8 32 V),(27,(0,0)))]
abbrev sOpE_s (K N S:List Int) (cp:Nat) (t:Tq) (B V:List Int) (j:Nat→Value):List Value:=([j 0,j 1,.slice none 0 0,.slice (some ⟨0,0,none⟩) 16 cp,.pointer (some ⟨1,0,none⟩),.pointer (some ⟨2,0,none⟩)] ++ (J j 6 4 ++ ([.pointer (some ⟨3,0,none⟩),.pointer (some ⟨4,0,none⟩),.int .i64 0,.pointer (some ⟨5,0,none⟩)] ++ (J j 14 45))))
abbrev sOpE_m (K N S:List Int) (cp:Nat) (t:Tq) (B V:List Int):List Mb:= [((wA .u8 cp S),t),((wA .u8 32 K),(27,(0,0))),((wA .u8 12 N),(28,(0,0))),((wA .u8 16 B),(22,(0,0))),((wA .u8 32 V),(27,(0,0))),((wA .u8 16 S),(22,(0,0)))]
def sOp5_op_m0 (K N S:List Int) (cp:Nat) (t:Tq) (B V:List Int) (j:Nat→Value):List Value:=([j 0,j 1,.slice none 0 0,.slice (some ⟨0,0,none⟩) 16 cp,.pointer (some ⟨1,0,none⟩),.pointer (some ⟨2,0,none⟩)] ++ (J j 6 4 ++ ([.pointer (some ⟨3,0,none⟩),.pointer (some ⟨4,0,none⟩),.int .i64 0] ++ (J j 13 22 ++ ([.slice (some ⟨0,0,none⟩) 16 cp,.int .i64 0,.slice (some ⟨0,(if cp=0 then 0 else 0+0*1),none⟩) 16 cp] ++ (J j 38 21))))))
theorem sOp5_op_0 (K N S:List Int) (cp:Nat) (t:Tq) (B V:List Int) (j:Nat→Value):evL (yty.enf tabW3 1) (oT (cAt [1,1,1,1,1,0] (bdy Try.f21))) ((oT (cAt [1,1,1,1,1,0] (bdy Try.f21))).toList.take 3) ⟨sOpD_s K N S cp t B V j,sOpD_m K N S cp t B V,True,[]⟩=some ⟨sOp5_op_m0 K N S cp t B V j,[((wA .u8 cp S),t),((wA .u8 32 K),(27,(0,0))),((wA .u8 12 N),(28,(0,0))),((wA .u8 16 B),(22,(0,0))),((wA .u8 32 V),(27,(0,0)))],(((True∧True)∧True)∧((((0:Int)≤0)∧True)∧0≤16∧16≤cp)),[]⟩:=by kernel_rfl
def sOp5_op_b (K N S:List Int) (cp:Nat) (t:Tq) (B V:List Int) (j:Nat→Value):List Value:=([j 0,j 1,.slice none 0 0,.slice (some ⟨0,0,none⟩) 16 cp,.pointer (some ⟨1,0,none⟩),.pointer (some ⟨2,0,none⟩)] ++ (J j 6 4 ++ ([.pointer (some ⟨3,0,none⟩),.pointer (some ⟨4,0,none⟩),.int .i64 0,.pointer (some ⟨5,0,none⟩)] ++ (J j 14 21 ++ ([.slice (some ⟨0,0,none⟩) 16 cp,.int .i64 0,.slice (some ⟨0,(if cp=0 then 0 else 0+0*1),none⟩) 16 cp,.pointer (some ⟨0,(if cp=0 then 0 else 0+0*1),none⟩),.agg (wA .u8 16 S)] ++ (J j 40 19))))))
theorem sOp5_op_e (K N S:List Int) (cp:Nat) (t:Tq) (B V:List Int) (j:Nat→Value):evL (yty.enf tabW3 1) (oT (cAt [1,1,1,1,1,0] (bdy Try.f21))) ((oT (cAt [1,1,1,1,1,0] (bdy Try.f21))).toList.drop 4) ⟨putS (sOp5_op_m0 K N S cp t B V j) (some 38) (.pointer (some ⟨0,(if cp=0 then 0 else 0+0*1),none⟩)),[((wA .u8 cp S),t),((wA .u8 32 K),(27,(0,0))),((wA .u8 12 N),(28,(0,0))),((wA .u8 16 B),(22,(0,0))),((wA .u8 32 V),(27,(0,0)))],True,[some (.tuple #[.agg (wA .u8 16 S)])]⟩=some ⟨sOp5_op_b K N S cp t B V j,[((wA .u8 cp S),t),((wA .u8 32 K),(27,(0,0))),((wA .u8 12 N),(28,(0,0))),((wA .u8 16 B),(22,(0,0))),((wA .u8 32 V),(27,(0,0))),((wA .u8 16 S),(22,(0,0)))],((True∧((wA .u8 cp S).extract ((if cp=0 then 0 else 0+0*1)) ((if cp=0 then 0 else 0+0*1)+16)=(wA .u8 16 S)∧16=(wA .u8 16 S).size))∧((wA .u8 16 S).all (fun v=>v.oneCell')=true)),[]⟩:=by kernel_rfl
theorem sOp5_o (K N S:List Int) (cp:Nat) (t:Tq) (B V:List Int) (j:Nat→Value) (hK:By K) (hN:By N) (hS:By S) (hc:16≤cp) (hT:S=sealL K N) (hB:B=kyL K N 0 2) (hV:V=kyL K N 2 4)  {c0:Prop} {ch0:List (Option Value)}:Runs Try.prog (cAt [1,1,1,1,1,0] (bdy Try.f21)) ⟨sOpD_s K N S cp t B V j,sOpD_m K N S cp t B V,c0,ch0⟩ (fun e s=>e= .normal∧∃(j:Nat→Value) (c:Prop) (ch:List (Option Value)),s=⟨sOpE_s K N S cp t B V j,sOpE_m K N S cp t B V,c,ch⟩) 1:=by
  refine runs_region (K:=fun s=>∃(j:Nat→Value) (c:Prop) (ch:List (Option Value)),s=⟨sOpE_s K N S cp t B V j,sOpE_m K N S cp t B V,c,ch⟩) (by kernel_rfl) ?_
  refine runsL_s2aS (E:=(yty.enf tabW3 1)) (d:=38) (n:=16) (x:=37) (i:=0) (p:=(if cp=0 then 0 else 0+0*1)) (l:=16) (cp:=cp) 3 (sOp5_op_0 K N S cp t B V j) ⟨⟨⟨trivial,trivial⟩,trivial⟩,(by refine⟨⟨?_,?_⟩,?_,?_⟩<;>first|trivial|omega)⟩ (by kernel_rfl) (by kernel_rfl) Try.underlying22 (by decide) (fun c ch=> ?_)
  refine(runsL_ev _ (sOp5_op_e K N S cp t B V j) ⟨⟨trivial,ext16 hc (by split<;>rfl)⟩,(wA_one _ _ _)⟩).mono ?_
  rintro s hs
  refine⟨fun q=>s.tm.getD q undef,s.c,s.ch,?_⟩
  subst hs
  kernel_rfl
theorem sOp5:sOpA_R [1,1,1,1,1,0] (sOpD k_2) .normal (fun z_=>z_=sOpE k_2):=by
  have⟨hK,hN,hS,hc,hT⟩:=id k_1
  have⟨hB,hV⟩:=id k_2
  refine fun j c0 ch0=> ?_
  rw[show(sOpD k_2).at j c0 ch0=⟨sOpD_s K N S cp t B V j,sOpD_m K N S cp t B V,c0,ch0⟩ from by kernel_rfl]
  refine(sOp5_o K N S cp t B V j hK hN hS hc hT hB hV ).mono ?_
  rintro e s ⟨h_,j,c,ch,hs_⟩
  exact⟨_,⟨h_,rfl⟩,j,c,ch,hs_.trans (by kernel_rfl)⟩
abbrev sOpF (_:sOpC_c k_1 B V):FS:=⟨false,59,[(2,.slice none 0 0),(3,.slice (some ⟨0,0,none⟩) 16 cp),(4,.pointer (some ⟨1,0,none⟩)),(5,.pointer (some ⟨2,0,none⟩)),(10,.pointer (some ⟨3,0,none⟩)),(11,.pointer (some ⟨4,0,none⟩)),(12,.int .i64 0),(13,.pointer (some ⟨5,0,none⟩)),(14,.slice (some ⟨6,0,none⟩) 0 0)],[((wA .u8 cp S),t),((wA .u8 32 K),(27,(0,0))),((wA .u8 12 N),(28,(0,0))),((wA .u8 16 B),(22,(0,0))),((wA .u8 32 V),(27,(0,0))),((wA .u8 16 S),(22,(0,0))),((wA .u8 0 []),(5,(0,0)))]⟩
theorem sOp6:sOpA_R [1,1,1,1,1,1,0] (sOpE k_2) .normal (fun z_=>z_=sOpF k_2):=by
  exact rn_ev (yty.enf tabW3 1) sOpA_h mixed _ none [] [(2,((0:Int)≤0∧(0:Int)=0∧1*Int.toNat 0≤281474976710656∧Int.toNat 0≤9223372036854775807))] 1 (fun j M=>by kernel_rfl) (A1 ⟨by decide,rfl,by decide,by decide⟩ A0) rfl
abbrev sOpF_s (K N S:List Int) (cp:Nat) (t:Tq) (B V:List Int) (j:Nat→Value):List Value:=([j 0,j 1,.slice none 0 0,.slice (some ⟨0,0,none⟩) 16 cp,.pointer (some ⟨1,0,none⟩),.pointer (some ⟨2,0,none⟩)] ++ (J j 6 4 ++ ([.pointer (some ⟨3,0,none⟩),.pointer (some ⟨4,0,none⟩),.int .i64 0,.pointer (some ⟨5,0,none⟩),.slice (some ⟨6,0,none⟩) 0 0] ++ (J j 15 44))))
abbrev sOpF_m (K N S:List Int) (cp:Nat) (t:Tq) (B V:List Int):List Mb:= [((wA .u8 cp S),t),((wA .u8 32 K),(27,(0,0))),((wA .u8 12 N),(28,(0,0))),((wA .u8 16 B),(22,(0,0))),((wA .u8 32 V),(27,(0,0))),((wA .u8 16 S),(22,(0,0))),((wA .u8 0 []),(5,(0,0)))]
def sOp7_op_m (K N S:List Int) (cp:Nat) (t:Tq) (B V:List Int) (j:Nat→Value):List Value:=([j 0,j 1,.slice none 0 0,.slice (some ⟨0,0,none⟩) 16 cp,.pointer (some ⟨1,0,none⟩),.pointer (some ⟨2,0,none⟩)] ++ (J j 6 4 ++ ([.pointer (some ⟨3,0,none⟩),.pointer (some ⟨4,0,none⟩),.int .i64 0,.pointer (some ⟨5,0,none⟩),.slice (some ⟨6,0,none⟩) 0 0] ++ (J j 15 27 ++ ([.slice (some ⟨6,0,none⟩) 0 0,.slice (some ⟨0,0,none⟩) 16 cp,.int .i64 0,.slice (some ⟨0,(if cp=0 then 0 else 0+0*1),none⟩) 0 cp,.agg (wA .u8 32 V),.agg (wA .u8 16 S)] ++ (J j 48 11))))))
theorem sOp7_op_0 (K N S:List Int) (cp:Nat) (t:Tq) (B V:List Int) (j:Nat→Value):evS (yty.enf tabW3 1) (oT (cAt [1,1,1,1,1,1,1,0] (bdy Try.f21))) [0,1,2,3,4,5,6] [(0,true),(1,true),(2,true),(3,true),(4,true),(5,true)] ⟨sOpF_s K N S cp t B V j,sOpF_m K N S cp t B V,True,[]⟩=some ⟨sOp7_op_m K N S cp t B V j,[((wA .u8 cp S),t),((wA .u8 32 K),(27,(0,0))),((wA .u8 12 N),(28,(0,0))),((wA .u8 16 B),(22,(0,0))),((wA .u8 32 V),(27,(0,0))),((wA .u8 16 S),(22,(0,0))),((wA .u8 0 []),(5,(0,0)))],((((((True∧True)∧True)∧True)∧((True∧((0:Int)≤0))∧0≤0∧0≤cp))∧True)∧True),[]⟩:=by kernel_rfl
theorem sOp7_o (K N S:List Int) (cp:Nat) (t:Tq) (B V:List Int) (j:Nat→Value) (hK:By K) (hN:By N) (hS:By S) (hc:16≤cp) (hT:S=sealL K N) (hB:B=kyL K N 0 2) (hV:V=kyL K N 2 4)  {c0:Prop} {ch0:List (Option Value)}:Runs Try.prog (cAt [1,1,1,1,1,1,1,0] (bdy Try.f21)) ⟨sOpF_s K N S cp t B V j,sOpF_m K N S cp t B V,c0,ch0⟩ (fun e s=>e= .normal∧∃(j:Nat→Value) (c:Prop) (ch:List (Option Value)),s=⟨sOpF_s K N S cp t B V j,sOpF_m K N S cp t B V,c,ch⟩) 1:=by
  refine(runs_drawH mixed (c:=(cAt [1,1,1,1,1,1,1,0] (bdy Try.f21))) (by kernel_rfl) (keep:= [0,1,2,3,4,5,6]) (π:= [(0,true),(1,true),(2,true),(3,true),(4,true),(5,true)]) (i1:=6) (i2:=7) (by kernel_rfl) (sOp7_op_0 K N S cp t B V j) ⟨⟨⟨⟨⟨⟨trivial,trivial⟩,trivial⟩,trivial⟩,(by refine⟨⟨?_,?_⟩,?_,?_⟩<;>first|trivial|omega)⟩,trivial⟩,trivial⟩ (f1:=37) (f2:=36) (xs1:= [.tmp 46,.tmp 47]) (xs2:= [.tmp 42,.tmp 45,.tmp 48]) (d1:=some 48) (d2:=(some 49)) (by kernel_rfl) (call_of Try.func37 (by kernel_rfl) (by kernel_rfl)) (by kernel_rfl) (call_of Try.func36 (by kernel_rfl) (by kernel_rfl)) (G1:=fun v=>∃ f x y,v= .func f x y) (G2:=fun v=>v= .tuple #[]) (sSt_h _ _ _ _) (fun v hv hg=>by
    obtain⟨f,x,y,rfl⟩:=hg
    exact sAd_h _ _ _ _ _ _ (by kernel_rfl) (by kernel_rfl) rfl)).mono ?_
  rintro e s ⟨rfl,v1,v2,hv1,⟨f,x,y,rfl⟩,hv2,rfl,rfl⟩
  exact⟨rfl,fun q=>(putS (putS (sOp7_op_m K N S cp t B V j) (some 48) (.func f x y)) (some 49) (.tuple #[])).getD q undef,((((((True∧True)∧True)∧True)∧((True∧((0:Int)≤0))∧0≤0∧0≤cp))∧True)∧True),[],by kernel_rfl⟩
theorem sOp7:sOpA_R [1,1,1,1,1,1,1,0] (sOpF k_2) .normal (fun z_=>z_=sOpF k_2):=by
  have⟨hK,hN,hS,hc,hT⟩:=id k_1
  have⟨hB,hV⟩:=id k_2
  refine fun j c0 ch0=> ?_
  rw[show(sOpF k_2).at j c0 ch0=⟨sOpF_s K N S cp t B V j,sOpF_m K N S cp t B V,c0,ch0⟩ from by kernel_rfl]
  refine(sOp7_o K N S cp t B V j hK hN hS hc hT hB hV ).mono ?_
  rintro e s ⟨h_,j,c,ch,hs_⟩
  exact⟨_,⟨h_,rfl⟩,j,c,ch,hs_.trans (by kernel_rfl)⟩
abbrev sOpH (_:sOpC_c k_1 B V):FS:=⟨false,59,[(14,.slice (some ⟨6,0,none⟩) 0 0)],[((wA .u8 cp S),t),((wA .u8 32 K),(27,(0,0))),((wA .u8 12 N),(28,(0,0))),((wA .u8 16 B),(22,(0,0))),((wA .u8 32 V),(27,(0,0))),((wA .u8 16 S),(22,(0,0))),((wA .u8 0 []),(5,(0,0)))]⟩
theorem sOp8:sOpA_R [1,1,1,1,1,1,1,1,0] (sOpF k_2) .normal (fun z_=>z_=sOpH k_2):=by
  have⟨hK,hN,hS,hc,hT⟩:=id k_1
  have⟨hB,hV⟩:=id k_2
  exact rn_ev (yty.enf tabW3 1) sOpA_h mixed _ none [some (.bool false)] [(10,((((wA .u8 16 B)=wA .u8 16 (dL8 (wA .u8 16 B))∧By (dL8 (wA .u8 16 B)))∧((wA .u8 32 V)=wA .u8 32 (dL8 (wA .u8 32 V))∧By (dL8 (wA .u8 32 V)))∧((wA .u8 12 N)=wA .u8 12 (dL8 (wA .u8 12 N))∧By (dL8 (wA .u8 12 N))))∧(BkOk [((wA .u8 cp S),t),((wA .u8 32 K),(27,(0,0))),((wA .u8 12 N),(28,(0,0))),((wA .u8 16 B),(22,(0,0))),((wA .u8 32 V),(27,(0,0))),((wA .u8 16 S),(22,(0,0))),((wA .u8 0 []),(5,(0,0)))] none 0 0∧BkOk [((wA .u8 cp S),t),((wA .u8 32 K),(27,(0,0))),((wA .u8 12 N),(28,(0,0))),((wA .u8 16 B),(22,(0,0))),((wA .u8 32 V),(27,(0,0))),((wA .u8 16 S),(22,(0,0))),((wA .u8 0 []),(5,(0,0)))] (some ⟨6,0,none⟩) 0 0)∧0≤1000000000∧0≤1000000000)),(2,((isBL 16 (wA .u8 16 (tagL (dL8 (wA .u8 16 B)) (dL8 (wA .u8 32 V)) (dL8 (wA .u8 12 N)) (bOf [((wA .u8 cp S),t),((wA .u8 32 K),(27,(0,0))),((wA .u8 12 N),(28,(0,0))),((wA .u8 16 B),(22,(0,0))),((wA .u8 32 V),(27,(0,0))),((wA .u8 16 S),(22,(0,0))),((wA .u8 0 []),(5,(0,0)))] none 0) (bOf [((wA .u8 cp S),t),((wA .u8 32 K),(27,(0,0))),((wA .u8 12 N),(28,(0,0))),((wA .u8 16 B),(22,(0,0))),((wA .u8 32 V),(27,(0,0))),((wA .u8 16 S),(22,(0,0))),((wA .u8 0 []),(5,(0,0)))] (some ⟨6,0,none⟩) 0)))∧isBL 16 (wA .u8 16 S))∧(!(intsOf (wA .u8 16 (tagL (dL8 (wA .u8 16 B)) (dL8 (wA .u8 32 V)) (dL8 (wA .u8 12 N)) (bOf [((wA .u8 cp S),t),((wA .u8 32 K),(27,(0,0))),((wA .u8 12 N),(28,(0,0))),((wA .u8 16 B),(22,(0,0))),((wA .u8 32 V),(27,(0,0))),((wA .u8 16 S),(22,(0,0))),((wA .u8 0 []),(5,(0,0)))] none 0) (bOf [((wA .u8 cp S),t),((wA .u8 32 K),(27,(0,0))),((wA .u8 12 N),(28,(0,0))),((wA .u8 16 B),(22,(0,0))),((wA .u8 32 V),(27,(0,0))),((wA .u8 16 S),(22,(0,0))),((wA .u8 0 []),(5,(0,0)))] (some ⟨6,0,none⟩) 0))) == intsOf (wA .u8 16 S)))=false))] 0 (fun j M=>by kernel_rfl) (A1 ⟨⟨dq (by rw[hB];exact kyL_by _ _ _ _),dq (by rw[hV];exact kyL_by _ _ _ _),dq hN⟩,⟨⟨by decide,.inl ⟨rfl,rfl,rfl⟩⟩,⟨by decide,.inr ⟨6,0,_,_,rfl,rfl,fun i hi=>by omega,by decide⟩⟩⟩,by decide,by decide⟩ (A1 ⟨⟨isBL_w _ _,isBL_w _ _⟩,(by rw[show(tagL (dL8 (wA .u8 16 B)) (dL8 (wA .u8 32 V)) (dL8 (wA .u8 12 N)) (bOf [((wA .u8 cp S),t),((wA .u8 32 K),(27,(0,0))),((wA .u8 12 N),(28,(0,0))),((wA .u8 16 B),(22,(0,0))),((wA .u8 32 V),(27,(0,0))),((wA .u8 16 S),(22,(0,0))),((wA .u8 0 []),(5,(0,0)))] none 0) (bOf [((wA .u8 cp S),t),((wA .u8 32 K),(27,(0,0))),((wA .u8 12 N),(28,(0,0))),((wA .u8 16 B),(22,(0,0))),((wA .u8 32 V),(27,(0,0))),((wA .u8 16 S),(22,(0,0))),((wA .u8 0 []),(5,(0,0)))] (some ⟨6,0,none⟩) 0))=S from(tagL_w _ _ _ _ _).trans (by rw[hB,hV,hT];rfl)];simp)⟩ A0)) rfl
abbrev sOpI (_:sOpC_c k_1 B V):FS:=⟨false,59,[(8,.slice (some ⟨6,0,none⟩) 0 0),(9,.int .i64 0)],[((wA .u8 cp S),t),((wA .u8 32 K),(27,(0,0))),((wA .u8 12 N),(28,(0,0))),((wA .u8 16 B),(22,(0,0))),((wA .u8 32 V),(27,(0,0))),((wA .u8 16 S),(22,(0,0))),((wA .u8 0 []),(5,(0,0)))]⟩
theorem sOp9:sOpA_R [1,1,1,1,1,1,1,1,1] (sOpH k_2) .ret (fun z_=>z_=sOpI k_2):=by
  exact rn_ev (yty.enf tabW3 1) sOpA_h mixed _ none [] [] 3 (fun j M=>by kernel_rfl) A0 rfl
theorem sOpu':sOpA_R [] (sOpA k_1) .ret (fun z_=>∃(k_2:sOpC_c k_1 (kyL (dL8 (wA .u8 32 K)) (dL8 (wA .u8 12 N)) 0 2) (kyL (dL8 (wA .u8 32 K)) (dL8 (wA .u8 12 N)) 2 4)),z_=sOpI k_2):=by
  refine rn_seq (w:= []) (by kernel_rfl) sOp0 ?_
  rintro _ rfl
  refine rn_seq (w:= [1]) (by kernel_rfl) sOp1 ?_
  rintro _ rfl
  refine rn_seq (w:= [1,1]) (by kernel_rfl) sOp2 ?_
  rintro _ rfl
  refine rn_seq (w:= [1,1,1]) (by kernel_rfl) sOp3 ?_
  rintro _ ⟨k_2,rfl⟩
  refine rn_seq (w:= [1,1,1,1]) (by kernel_rfl) sOp4 ?_
  rintro _ rfl
  refine rn_seq (w:= [1,1,1,1,1]) (by kernel_rfl) sOp5 ?_
  rintro _ rfl
  refine rn_seq (w:= [1,1,1,1,1,1]) (by kernel_rfl) sOp6 ?_
  rintro _ rfl
  refine rn_seq (w:= [1,1,1,1,1,1,1]) (by kernel_rfl) sOp7 ?_
  rintro _ rfl
  refine rn_seq (w:= [1,1,1,1,1,1,1,1]) (by kernel_rfl) sOp8 ?_
  rintro _ rfl
  exact(sOp9).mono fun _ e_=>⟨k_2,e_⟩
abbrev sOpA_s (K N S:List Int) (cp:Nat) (t:Tq) (j:Nat→Value):List Value:=([.agg (wA .u8 32 K),.agg (wA .u8 12 N),.slice none 0 0,.slice (some ⟨0,0,none⟩) 16 cp] ++ (JU 55))
abbrev sOpA_m (K N S:List Int) (cp:Nat) (t:Tq):List Mb:= [((wA .u8 cp S),t)]
abbrev sOpI_s (K N S:List Int) (cp:Nat) (t:Tq) (B V:List Int) (j:Nat→Value):List Value:=(J j 0 8 ++ ([.slice (some ⟨6,0,none⟩) 0 0,.int .i64 0] ++ (J j 10 49)))
abbrev sOpI_m (K N S:List Int) (cp:Nat) (t:Tq) (B V:List Int):List Mb:= [((wA .u8 cp S),t),((wA .u8 32 K),(27,(0,0))),((wA .u8 12 N),(28,(0,0))),((wA .u8 16 B),(22,(0,0))),((wA .u8 32 V),(27,(0,0))),((wA .u8 16 S),(22,(0,0))),((wA .u8 0 []),(5,(0,0)))]
theorem sOpu (K N S:List Int) (cp:Nat) (t:Tq) (j:Nat→Value) (hK:By K) (hN:By N) (hS:By S) (hc:16≤cp) (hT:S=sealL K N)  {c0:Prop} {ch0:List (Option Value)}:Runs Try.prog (cAt [] (bdy Try.f21)) ⟨sOpA_s K N S cp t j,sOpA_m K N S cp t,c0,ch0⟩ (fun e s=>e= .ret∧∃(j:Nat→Value) (c:Prop) (ch:List (Option Value)),((kyL (dL8 (wA .u8 32 K)) (dL8 (wA .u8 12 N)) 0 2)=kyL K N 0 2)∧((kyL (dL8 (wA .u8 32 K)) (dL8 (wA .u8 12 N)) 2 4)=kyL K N 2 4)∧s=⟨sOpI_s K N S cp t (kyL (dL8 (wA .u8 32 K)) (dL8 (wA .u8 12 N)) 0 2) (kyL (dL8 (wA .u8 32 K)) (dL8 (wA .u8 12 N)) 2 4) j,sOpI_m K N S cp t (kyL (dL8 (wA .u8 32 K)) (dL8 (wA .u8 12 N)) 0 2) (kyL (dL8 (wA .u8 32 K)) (dL8 (wA .u8 12 N)) 2 4),c,ch⟩) 1:=by
  refine(Rn.old (sOpu' (k_1:=(⟨hK,hN,hS,hc,hT⟩:sOpA_c K N S cp t))) j (by kernel_rfl)).mono ?_
  rintro e s ⟨rfl,_,⟨k_2,rfl⟩,j,c,ch,rfl⟩
  have⟨x_hB,x_hV⟩:=k_2
  exact⟨rfl,j,c,ch,x_hB,x_hV,by kernel_rfl⟩
theorem sOp_c (K N:List Int) (cp:Nat) (t:Tq) (hK:By K) (hN:By N) (hc:16≤cp):MakesT Try.prog 21 [(wA .u8 cp (sealL K N),t)] [.agg (wA .u8 32 K),.agg (wA .u8 12 N),.slice none 0 0,.slice (some ⟨0,0,none⟩) 16 cp] .u8 0 [] 5 (.int .i64 0):=
  makesT_runs (fk:=1) Try.func21 (c:=bdy Try.f21) (by kernel_rfl) ⟨rfl,by decide⟩ (args:= [.agg (wA .u8 32 K),.agg (wA .u8 12 N),.slice none 0 0,.slice (some ⟨0,0,none⟩) 16 cp]) (by kernel_rfl) (r:=8) (r2:=9) (by kernel_rfl) (sOpu K N (sealL K N) cp t (fun _=>undef) hK hN (tagL_by _ _ _ _ _) hc rfl) (fun e s h=>by
    obtain⟨rfl,j,c,ch,hB,hV,rfl⟩:=h
    exact⟨rfl,rfl,rfl,6,0,by decide,by decide,rfl,rfl⟩)
end Go.Proofs.Ythldpfindbhkeaa

set_option linter.unusedSimpArgs false
set_option linter.unusedVariables false
/-! siv: known. -/
namespace Go.Proofs.Ythldpfindbhkeaa
open Go.RowKit Go.Ev
theorem by_1:By [1]:=by_cons ⟨by decide,by decide⟩ by_nil
theorem by_3:By [3]:=by_cons ⟨by decide,by decide⟩ by_nil
theorem kh0:encL [1] (blkL [3] 0)= [181,211,197,41,223,175,172,67,3,132,166,59,4,110,153,158]:=by kernel_rfl
theorem kh1:encL [1] (blkL [3] 1)= [19,109,45,17,190,40,77,127,212,152,177,66,162,153,90,90]:=by kernel_rfl
theorem kh2:encL [1] (blkL [3] 2)= [185,20,244,116,43,233,225,215,100,29,57,122,154,15,250,100]:=by kernel_rfl
theorem kh3:encL [1] (blkL [3] 3)= [162,248,74,221,191,150,222,195,252,222,251,206,175,210,165,243]:=by kernel_rfl
theorem kh4:encL [1] (blkL [3] 4)= [69,110,60,108,5,236,193,87,9,216,137,70,50,72,15,175]:=by kernel_rfl
theorem kh5:encL [1] (blkL [3] 5)= [205,191,7,0,254,218,210,34,115,9,141,210,234,162,104,179]:=by kernel_rfl
theorem ky_lit {K N:List Int} {q n:Nat} (f:Nat→List Int) (h:∀ k,k<n→hfL K N ((q+k:Nat):Int)=f k):kyL K N q n=(List.range (8*n)).map fun i=>(f (i / 8)).getD (i%8) 0:=List.map_congr_left fun i hi=>by
  have hi:i<8*n:=by simpa using hi
  rw[h (i / 8) (by omega)]
theorem ky_B:kyL [1] [3] 0 2= [181,211,197,41,223,175,172,67,19,109,45,17,190,40,77,127]:=by
  rw [ky_lit (fun k => [[181, 211, 197, 41, 223, 175, 172, 67, 3, 132, 166, 59, 4, 110, 153, 158], [19, 109, 45, 17, 190, 40, 77, 127, 212, 152, 177, 66, 162, 153, 90, 90]].getD k []) (fun k hk => by
    match k,hk with
    |0,_=>exact kh0
    |1,_=>exact kh1)]
  decide+kernel
theorem ky_T:kyL [1] [3] 2 4= [185,20,244,116,43,233,225,215,162,248,74,221,191,150,222,195,69,110,60,108,5,236,193,87,205,191,7,0,254,218,210,34]:=by
  rw [ky_lit (fun k => [[185, 20, 244, 116, 43, 233, 225, 215, 100, 29, 57, 122, 154, 15, 250, 100], [162, 248, 74, 221, 191, 150, 222, 195, 252, 222, 251, 206, 175, 210, 165, 243], [69, 110, 60, 108, 5, 236, 193, 87, 9, 216, 137, 70, 50, 72, 15, 175], [205, 191, 7, 0, 254, 218, 210, 34, 115, 9, 141, 210, 234, 162, 104, 179]].getD k []) (fun k hk => by
    match k,hk with
    |0,_=>exact kh2
    |1,_=>exact kh3
    |2,_=>exact kh4
    |3,_=>exact kh5)]
  decide+kernel
theorem abs_0 (H S:List Int):absL H S []=dL8 (wA .u8 16 S):=rfl
theorem tsL_0 {H:List Int} (hH:By H):tsL H [] []=eL 0:=by
  unfold tsL
  rw[abs_0,absL_w1,abs_0,absL_w1]
  have e1:(jnL ((8*([]:List Int).length:Nat):Int) ((8*([]:List Int).length:Nat):Int))=jnL 0 0:=rfl
  rw[e1]
  have e2:absL H [] (jnL 0 0)=dotL (xr (dL8 (wA .u8 16 [])) (jnL 0 0)) H:=rfl
  rw[e2,dotL_eq (xr_by _ _) hH]
  have e3:nL (xr (dL8 (wA .u8 16 [])) (jnL 0 0))=0:=by decide+kernel
  rw[e3,fdot_0a]
theorem seal_val:sealL [1] [3]= [7,245,244,22,155,191,85,168,64,12,212,126,166,253,64,15]:=by
  have hb:By [181,211,197,41,223,175,172,67,19,109,45,17,190,40,77,127]:=by
    have:=kyL_by [1] [3] 0 2
    rwa[ky_B] at this
  unfold sealL tagL
  rw[ky_B,ky_T,tsL_0 hb]
  have e:cutL (xrv (eL 0) [3] 12)= [3,0,0,0,0,0,0,0,0,0,0,0,0,0,0,0]:=by decide+kernel
  rw[e]
  show encL [185,20,244,116,43,233,225,215,162,248,74,221,191,150,222,195,69,110,60,108,5,236,193,87,205,191,7,0,254,218,210,34] [3,0,0,0,0,0,0,0,0,0,0,0,0,0,0,0]= [7,245,244,22,155,191,85,168,64,12,212,126,166,253,64,15]
  kernel_rfl
def jS9:ByteArray:=⟨#[7,245,244,22,155,191,85,168,64,12,212,126,166,253,64,15]⟩
def sKnA_h (i:Nat):Hn:=⟨0,[],[],[],[]⟩
abbrev sKnA_R (w:List Nat) (S:FS) (e:Exit) (K:FS→Prop):Prop:=Rn Try.prog (cAt w (bdy Try.f11)) S e K 0
structure sKnA_c (z:Unit):Prop where
variable {z:Unit} {k_1:sKnA_c z}
abbrev sKnA (_:sKnA_c z):FS:=⟨true,34,[],[]⟩
abbrev sKnB (_:sKnA_c z):FS:=⟨false,34,[],[]⟩
theorem sKn0:sKnA_R [0] (sKnA k_1) .normal (fun z_=>z_=sKnB k_1):=by
  exact rn_ev (yty.en tabV0) sKnA_h mixed _ none [] [] 1 (fun j M=>by kernel_rfl) A0 rfl
structure sKnC_c (_:sKnA_c z) (k:Nat):Prop where
  hk:16≤k
variable {k:Nat} {k_2:sKnC_c k_1 k}
abbrev sKnC (_:sKnC_c k_1 k):FS:=⟨false,34,[(1,.slice (some ⟨0,0,none⟩) 16 k),(2,.int .i64 0)],[((wA .u8 k (sealL [1] [3])),(5,(0,0)))]⟩
abbrev sKnB_s (z:Unit) (j:Nat→Value):List Value:=(J j 0 34)
abbrev sKnB_m (z:Unit):List Mb:= []
abbrev sKnC_s (z:Unit) (k:Nat) (j:Nat→Value):List Value:=([j 0,.slice (some ⟨0,0,none⟩) 16 k,.int .i64 0] ++ (J j 3 31))
abbrev sKnC_m (z:Unit) (k:Nat):List Mb:= [((wA .u8 k (sealL [1] [3])),(5,(0,0)))]
def sKn1_op_m0 (z:Unit) (j:Nat→Value):List Value:=(J j 0 6 ++ ([.agg (wA .u8 32 [1]),.agg (wA .u8 12 [3])] ++ (J j 8 26)))
theorem sKn1_op_0 (z:Unit) (j:Nat→Value):evL (yty.en tabV0) (oT (cAt [1,0] (bdy Try.f11))) ((oT (cAt [1,0] (bdy Try.f11))).toList.take 2) ⟨sKnB_s z j,sKnB_m z,True,[]⟩=some ⟨sKn1_op_m0 z j,[],((True∧True)∧True),[]⟩:=by kernel_rfl
def sKn1_op_b (z:Unit) (j:Nat→Value) (b1 k1:Nat):List Value:=([j 0,.slice (some ⟨0,0,none⟩) 16 k1,.int .i64 0,j 3,j 4,.tuple #[.slice (some ⟨b1,0,none⟩) 16 k1,.int .i64 0],.agg (wA .u8 32 [1]),.agg (wA .u8 12 [3]),.tuple #[.slice (some ⟨b1,0,none⟩) 16 k1,.int .i64 0],.slice (some ⟨0,0,none⟩) 16 k1,.int .i64 0] ++ (J j 11 23))
theorem sKn1_op_e (z:Unit) (j:Nat→Value) (b1 k1:Nat):evL (yty.en tabV0) (oT (cAt [1,0] (bdy Try.f11))) ((oT (cAt [1,0] (bdy Try.f11))).toList.drop 5) ⟨(((sKn1_op_m0 z j).set 8 (.tuple #[.slice (some ⟨b1,0,none⟩) 16 k1,.int .i64 0])).set 5 (.tuple #[.slice (some ⟨b1,0,none⟩) 16 k1,.int .i64 0])).set 9 (.slice (some ⟨0,0,none⟩) 16 k1),[] ++ [(wA .u8 k1 (sealL [1] [3]),5,(0,0))],True,[]⟩=some ⟨sKn1_op_b z j b1 k1,[((wA .u8 k1 (sealL [1] [3])),(5,(0,0)))],(((True∧True)∧True)∧True),[]⟩:=by kernel_rfl
theorem sKn1_o (z:Unit) (j:Nat→Value)   {c0:Prop} {ch0:List (Option Value)}:Runs Try.prog (cAt [1,0] (bdy Try.f11)) ⟨sKnB_s z j,sKnB_m z,c0,ch0⟩ (fun e s=>e= .normal∧∃(k1:Nat) (j:Nat→Value) (c:Prop) (ch:List (Option Value)),(16≤k1)∧s=⟨sKnC_s z k1 j,sKnC_m z k1,c,ch⟩) 0:=by
  refine runs_region (K:=fun s=>∃(k1:Nat) (j:Nat→Value) (c:Prop) (ch:List (Option Value)),(16≤k1)∧s=⟨sKnC_s z k1 j,sKnC_m z k1,c,ch⟩) (by kernel_rfl) ?_
  refine runsL_callTS (E:=(yty.en tabV0)) (f:=19) (xs:= [.tmp 6,.tmp 7,.const (.slice none 0 0),.const (.slice none 0 0)]) (d0:=8) (d1:=5) (d2:=9) (q:= .u8) (n:=16) (L:=(sealL [1] [3])) (e:=5) (v:= .int .i64 0) 2 (sKn1_op_0 z j) ⟨⟨trivial,trivial⟩,trivial⟩ (by kernel_rfl) (by kernel_rfl) (by kernel_rfl) (call_of Try.func19 (by kernel_rfl) (by kernel_rfl)) rfl (sSl_c [1] [3] by_1 by_3 _ _) rfl (of_decide_eq_true (by kernel_rfl)) ⟨of_decide_eq_true (by kernel_rfl),of_decide_eq_true (by kernel_rfl)⟩ (fun b1 k1 c ch hk1=> ?_)
  refine(runsL_ev _ (sKn1_op_e z j b1 k1) ⟨⟨⟨trivial,trivial⟩,trivial⟩,trivial⟩).mono ?_
  rintro s hs
  refine⟨k1,fun q=>s.tm.getD q undef,s.c,s.ch,by rw[sealL,tagL_len] at hk1;exact hk1,?_⟩
  subst hs
  kernel_rfl
theorem sKn1:sKnA_R [1,0] (sKnB k_1) .normal (fun z_=>∃(k1:Nat) (k_2:sKnC_c k_1 k1),z_=sKnC k_2):=by
  refine fun j c0 ch0=> ?_
  rw[show(sKnB k_1).at j c0 ch0=⟨sKnB_s z j,sKnB_m z,c0,ch0⟩ from by kernel_rfl]
  refine(sKn1_o z j  ).mono ?_
  rintro e s ⟨h_,k1,j,c,ch,f0_,hs_⟩
  exact⟨_,⟨h_,⟨k1,⟨f0_⟩,rfl⟩⟩,j,c,ch,hs_.trans (by kernel_rfl)⟩
structure sKnD_c (_:sKnC_c k_1 k) (k2:Nat):Prop where
variable {k2:Nat} {k_3:sKnD_c k_2 k2}
abbrev sKnD (_:sKnD_c k_2 k2):FS:=⟨false,34,[(1,.slice (some ⟨0,0,none⟩) 16 k),(2,.int .i64 0),(3,.slice (some ⟨1,0,none⟩) 0 k2),(4,.int .i64 0)],[((wA .u8 k (sealL [1] [3])),(5,(0,0))),((wA .u8 k2 []),(5,(0,0)))]⟩
abbrev sKnD_s (z:Unit) (k:Nat) (k2:Nat) (j:Nat→Value):List Value:=([j 0,.slice (some ⟨0,0,none⟩) 16 k,.int .i64 0,.slice (some ⟨1,0,none⟩) 0 k2,.int .i64 0] ++ (J j 5 29))
abbrev sKnD_m (z:Unit) (k:Nat) (k2:Nat):List Mb:= [((wA .u8 k (sealL [1] [3])),(5,(0,0))),((wA .u8 k2 []),(5,(0,0)))]
def sKn2_op_m0 (z:Unit) (k:Nat) (j:Nat→Value):List Value:=([j 0,.slice (some ⟨0,0,none⟩) 16 k,.int .i64 0] ++ (J j 3 9 ++ ([.agg (wA .u8 32 [1]),.agg (wA .u8 12 [3]),.slice (some ⟨0,0,none⟩) 16 k] ++ (J j 15 19))))
theorem sKn2_op_0 (z:Unit) (k:Nat) (j:Nat→Value):evL (yty.en tabV0) (oT (cAt [1,1,0] (bdy Try.f11))) ((oT (cAt [1,1,0] (bdy Try.f11))).toList.take 3) ⟨sKnC_s z k j,sKnC_m z k,True,[]⟩=some ⟨sKn2_op_m0 z k j,[((wA .u8 k (sealL [1] [3])),(5,(0,0)))],(((True∧True)∧True)∧True),[]⟩:=by kernel_rfl
def sKn2_op_b (z:Unit) (k:Nat) (j:Nat→Value) (b1 k1:Nat):List Value:=([j 0,.slice (some ⟨0,0,none⟩) 16 k,.int .i64 0,.slice (some ⟨1,0,none⟩) 0 k1,.int .i64 0] ++ (J j 5 6 ++ ([.tuple #[.slice (some ⟨b1,0,none⟩) 0 k1,.int .i64 0],.agg (wA .u8 32 [1]),.agg (wA .u8 12 [3]),.slice (some ⟨0,0,none⟩) 16 k,.tuple #[.slice (some ⟨b1,0,none⟩) 0 k1,.int .i64 0],.slice (some ⟨1,0,none⟩) 0 k1,.int .i64 0] ++ (J j 18 16))))
theorem sKn2_op_e (z:Unit) (k:Nat) (j:Nat→Value) (b1 k1:Nat):evL (yty.en tabV0) (oT (cAt [1,1,0] (bdy Try.f11))) ((oT (cAt [1,1,0] (bdy Try.f11))).toList.drop 6) ⟨(((sKn2_op_m0 z k j).set 15 (.tuple #[.slice (some ⟨b1,0,none⟩) 0 k1,.int .i64 0])).set 11 (.tuple #[.slice (some ⟨b1,0,none⟩) 0 k1,.int .i64 0])).set 16 (.slice (some ⟨1,0,none⟩) 0 k1),[((wA .u8 k (sealL [1] [3])),(5,(0,0)))] ++ [(wA .u8 k1 ([]),5,(0,0))],True,[]⟩=some ⟨sKn2_op_b z k j b1 k1,[((wA .u8 k (sealL [1] [3])),(5,(0,0))),((wA .u8 k1 ([])),(5,(0,0)))],(((True∧True)∧True)∧True),[]⟩:=by kernel_rfl
theorem sKn2_o (z:Unit) (k:Nat) (j:Nat→Value) (hk:16≤k)  {c0:Prop} {ch0:List (Option Value)}:Runs Try.prog (cAt [1,1,0] (bdy Try.f11)) ⟨sKnC_s z k j,sKnC_m z k,c0,ch0⟩ (fun e s=>e= .normal∧∃(k1:Nat) (j:Nat→Value) (c:Prop) (ch:List (Option Value)),s=⟨sKnD_s z k k1 j,sKnD_m z k k1,c,ch⟩) 0:=by
  refine runs_region (K:=fun s=>∃(k1:Nat) (j:Nat→Value) (c:Prop) (ch:List (Option Value)),s=⟨sKnD_s z k k1 j,sKnD_m z k k1,c,ch⟩) (by kernel_rfl) ?_
  refine runsL_callTS (E:=(yty.en tabV0)) (f:=21) (xs:= [.tmp 12,.tmp 13,.const (.slice none 0 0),.tmp 14]) (d0:=15) (d1:=11) (d2:=16) (q:= .u8) (n:=0) (L:=([])) (e:=5) (v:= .int .i64 0) 3 (sKn2_op_0 z k j) ⟨⟨⟨trivial,trivial⟩,trivial⟩,trivial⟩ (by kernel_rfl) (by kernel_rfl) (by kernel_rfl) (call_of Try.func21 (by kernel_rfl) (by kernel_rfl)) rfl (sOp_c [1] [3] k _ by_1 by_3 hk) rfl (of_decide_eq_true (by kernel_rfl)) ⟨of_decide_eq_true (by kernel_rfl),of_decide_eq_true (by kernel_rfl)⟩ (fun b1 k1 c ch hk1=> ?_)
  refine(runsL_ev _ (sKn2_op_e z k j b1 k1) ⟨⟨⟨trivial,trivial⟩,trivial⟩,trivial⟩).mono ?_
  rintro s hs
  refine⟨k1,fun q=>s.tm.getD q undef,s.c,s.ch,?_⟩
  subst hs
  kernel_rfl
theorem sKn2:sKnA_R [1,1,0] (sKnC k_2) .normal (fun z_=>∃(k1:Nat) (k_3:sKnD_c k_2 k1),z_=sKnD k_3):=by
  have⟨hk⟩:=id k_2
  refine fun j c0 ch0=> ?_
  rw[show(sKnC k_2).at j c0 ch0=⟨sKnC_s z k j,sKnC_m z k,c0,ch0⟩ from by kernel_rfl]
  refine(sKn2_o z k j hk ).mono ?_
  rintro e s ⟨h_,k1,j,c,ch,hs_⟩
  exact⟨_,⟨h_,⟨k1,⟨⟩,rfl⟩⟩,j,c,ch,hs_.trans (by kernel_rfl)⟩
abbrev sKnE (_:sKnD_c k_2 k2):FS:=⟨false,34,[(0,.bool true)],[((wA .u8 k (sealL [1] [3])),(5,(0,0))),((wA .u8 k2 []),(5,(0,0)))]⟩
theorem sKn3:sKnA_R [1,1,1] (sKnD k_3) .ret (fun z_=>z_=sKnE k_3):=by
  have⟨hk⟩:=id k_2
  exact rn_ev (yty.en tabV0) sKnA_h mixed _ none [none,none,none,some (.bool true)] [(26,(((wA .u8 k (sealL [1] [3])).extract 0 (0+16)).all isB8=true∧0+16≤(wA .u8 k (sealL [1] [3])).size)),(1,(((bstr ((wA .u8 k (sealL [1] [3])).extract 0 (0+16)))).toList == (jS9).toList)=true)] 2 (fun j M=>by kernel_rfl) (A1 ⟨by rw[(ext16 (S:=sealL [1] [3]) hk rfl).1,seal_val];kernel_rfl,by rw[wA_size];omega⟩ (A1 (by rw[(ext16 (S:=sealL [1] [3]) hk rfl).1,seal_val];kernel_rfl) A0)) rfl
theorem sKnu':sKnA_R [] (sKnA k_1) .ret (fun z_=>∃(k11 k12:Nat) (k_2:sKnC_c k_1 k11) (k_3:sKnD_c k_2 k12),z_=sKnE k_3):=by
  refine rn_seq (w:= []) (by kernel_rfl) sKn0 ?_
  rintro _ rfl
  refine rn_seq (w:= [1]) (by kernel_rfl) sKn1 ?_
  rintro _ ⟨k11,k_2,rfl⟩
  refine rn_seq (w:= [1,1]) (by kernel_rfl) sKn2 ?_
  rintro _ ⟨k12,k_3,rfl⟩
  exact(sKn3).mono fun _ e_=>⟨k11,k12,k_2,k_3,e_⟩
abbrev sKnA_s (z:Unit) (j:Nat→Value):List Value:=(JU 34)
abbrev sKnA_m (z:Unit):List Mb:= []
abbrev sKnE_s (z:Unit) (k:Nat) (k2:Nat) (j:Nat→Value):List Value:=([.bool true] ++ (J j 1 33))
abbrev sKnE_m (z:Unit) (k:Nat) (k2:Nat):List Mb:= [((wA .u8 k (sealL [1] [3])),(5,(0,0))),((wA .u8 k2 []),(5,(0,0)))]
theorem sKnu (z:Unit) (j:Nat→Value)   {c0:Prop} {ch0:List (Option Value)}:Runs Try.prog (cAt [] (bdy Try.f11)) ⟨sKnA_s z j,sKnA_m z,c0,ch0⟩ (fun e s=>e= .ret∧∃(k11:Nat) (k12:Nat) (j:Nat→Value) (c:Prop) (ch:List (Option Value)),(16≤k11)∧s=⟨sKnE_s z k11 k12 j,sKnE_m z k11 k12,c,ch⟩) 0:=by
  refine(Rn.old (sKnu' (k_1:=(⟨⟩:sKnA_c z))) j (by kernel_rfl)).mono ?_
  rintro e s ⟨rfl,_,⟨k11,k12,k_2,k_3,rfl⟩,j,c,ch,rfl⟩
  have⟨x_hk⟩:=k_2
  exact⟨rfl,k11,k12,j,c,ch,x_hk,by kernel_rfl⟩
theorem sKn_c:Pure Try.prog 11 #[] (.bool true):=by
  refine pure_runs (E:=(yty.en tabV0)) Try.func11 (c:=bdy Try.f11) (by kernel_rfl) (args:= []) (by kernel_rfl) (K:=fun e s=>e= .ret∧resS (yty.en tabV0) s Try.f11.results.toList=some [.bool true]) ?_ (fun e s h=>⟨h.1,_,h.2,rfl⟩)
  refine(sKnu () (fun _=>undef)).mono ?_
  rintro e s ⟨rfl,k,k2,j,c,ch,_,rfl⟩
  exact⟨rfl,by kernel_rfl⟩
def pk9:Entry Try.prog:=ent0 Try.func11 (by kernel_rfl) (by kernel_rfl) (.bool true) sKn_c
end Go.Proofs.Ythldpfindbhkeaa
