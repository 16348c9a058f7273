import Derived.Test.YthldpfindbhkeaaZSPvalSiM1
import Derived.Test.YthldpfindbhkeaaZSPvalSiC1
import Derived.Test.YthldpfindbhkeaaZSPvalEvW1
set_option linter.unusedSimpArgs false
set_option linter.unusedVariables false
/-! siv: the document's dot. -/
namespace Go.Proofs.Ythldpfindbhkeaa
open Go.RowKit Go.Ev
def dPoA_h (i:Nat):Hn:=⟨0,[],[],[],[]⟩
abbrev dPoA_R (w:List Nat) (S:FS) (e:Exit) (K:FS→Prop):Prop:=Rn Try.prog (cAt w (bdy Try.f27)) S e K 0
structure dPoA_c (L:List Int):Prop where
  hL:By L
variable {L:List Int} {k_1:dPoA_c L}
abbrev dPoA (_:dPoA_c L):FS:=⟨true,21,[(0,.agg (wA .u8 16 L))],[]⟩
abbrev dPoB (_:dPoA_c L):FS:=⟨false,21,[(1,.pointer (some ⟨0,0,none⟩)),(2,.pointer (some ⟨1,0,none⟩))],[((wA .u8 16 L),(22,(0,0))),((wA .i64 128 []),(47,(0,0)))]⟩
theorem dPo0:dPoA_R [0] (dPoA k_1) .normal (fun z_=>z_=dPoB k_1):=by
  exact rn_ev (yty.en tabV0) dPoA_h mixed _ none [] [] 0 (fun j M=>by kernel_rfl) A0 rfl
abbrev dPoC (_:dPoA_c L):FS:=⟨false,21,[(1,.pointer (some ⟨0,0,none⟩)),(2,.pointer (some ⟨1,0,none⟩)),(3,.pointer (some ⟨2,0,none⟩))],[((wA .u8 16 L),(22,(0,0))),((wA .i64 128 []),(47,(0,0))),((wA .i64 128 []),(47,(0,0)))]⟩
theorem dPo1:dPoA_R [1,0] (dPoB k_1) .normal (fun z_=>z_=dPoC k_1):=by
  exact rn_ev (yty.en tabV0) dPoA_h mixed _ none [] [] 0 (fun j M=>by kernel_rfl) A0 rfl
structure dPoD_c (_:dPoA_c L) (i:Nat):Prop where
  hi:i≤128
variable {i:Nat} {k_2:dPoD_c k_1 i}
abbrev dPoD (_:dPoD_c k_1 i):FS:=⟨false,21,[(1,.pointer (some ⟨0,0,none⟩)),(2,.pointer (some ⟨1,0,none⟩)),(3,.pointer (some ⟨2,0,none⟩)),(4,.int .i64 ((i:Nat):Int))],[((wA .u8 16 L),(22,(0,0))),((wA .i64 128 []),(47,(0,0))),((wA .i64 128 (pL (zm (nL L) i))),(47,(0,0)))]⟩
theorem po_val {L:List Int} (h:By L) {i:Nat} (hi:i<128):Int.tmod (IntKind.i64.wrap ((L.getD (i / 8) 0) / 2 ^ (min (Int.toNat ((i%8:Nat):Int)) 8))) 2=bti (nL L) i:=by
  obtain⟨e,hb⟩:=byNq h (i / 8)
  have hr:i%8<8:=Nat.mod_lt _ (by decide)
  have e1:L.getD (i / 8) 0 / 2 ^ (min (Int.toNat ((i%8:Nat):Int)) 8)=(((L.getD (i / 8) 0).toNat / 2 ^ (i%8):Nat):Int):=by
    rw[Int.toNat_natCast,Nat.min_eq_left (by omega)]
    generalize(L.getD (i / 8) 0).toNat=b at e
    rw[e]
    have:(2:Int) ^ (i%8)=((2 ^ (i%8):Nat):Int):=by simp
    rw[this];rfl
  have hz:(L.getD (i / 8) 0).toNat / 2 ^ (i%8)<256:=Nat.lt_of_le_of_lt (Nat.div_le_self _ _) hb
  unfold bti
  rw[e1,nL_bit h hi]
  generalize(L.getD (i / 8) 0).toNat / 2 ^ (i%8)=z at hz
  rw[IntKind.wrap_i64,show(((z:Nat):Int)+9223372036854775808)%18446744073709551616 - 9223372036854775808=((z:Nat):Int) by omega]
  rw[show(2:Int)=((2:Nat):Int) from rfl,tmodN]
  by_cases h1:z%2=1
  · rw[h1];rfl
  · rw[show z%2=0 by omega];rfl
theorem dPo2 (hlt:i<128):dPoA_R [1,1,0,1,0,0] (dPoD k_2) .normal (fun z_=>∃(k_2:dPoD_c k_1 (i+1)),z_=dPoD k_2):=by
  have⟨hL⟩:=id k_1
  have⟨hi⟩:=id k_2
  exact rn_ev (yty.en tabV0) dPoA_h mixed _ none [some (.bool true),some (.int .i64 ((i / 8:Nat):Int)),some (.int .u8 (L.getD (i / 8) 0)),some (.int .i64 ((i%8:Nat):Int)),none,none,none,some (.agg (wA .i64 128 (pL (zm (nL L) (i+1))))),some (.int .i64 ((i+1:Nat):Int))] [(3,(decide (((i:Nat):Int)<128))=true),(4,(((8:Int)≠0)∧(IntKind.i64.wrap (Int.tdiv ((i:Nat):Int) 8))=((i / 8:Nat):Int))),(0,(0≤((i / 8:Nat):Int)∧((i / 8:Nat):Int)<((16:Nat):Int))),(0,(((wA .u8 16 L)[(0+Int.toNat ((i / 8:Nat):Int)*1)]? =some (.int .u8 (L.getD (i / 8) 0)))∧(L.getD (i / 8) 0)=(L.getD (i / 8) 0))),(2,(((8:Int)≠0)∧(Int.tmod ((i:Nat):Int) 8)=((i%8:Nat):Int))),(0,(0≤((i%8:Nat):Int))),(2,((2:Int)≠0)),(0,(0≤((i:Nat):Int)∧((i:Nat):Int)<((128:Nat):Int))),(0,((0+Int.toNat ((i:Nat):Int)*1)<(wA .i64 128 (pL (zm (nL L) i))).size∧(wA .i64 128 (pL (zm (nL L) i))).setIfInBounds (0+Int.toNat ((i:Nat):Int)*1) (.int .i64 (Int.tmod (IntKind.i64.wrap ((L.getD (i / 8) 0) / 2 ^ (min (Int.toNat ((i%8:Nat):Int)) 8))) 2))=(wA .i64 128 (pL (zm (nL L) (i+1)))))),(3,(IntKind.i64.wrap (((i:Nat):Int)+1))=((i+1:Nat):Int))] 1 (fun j M=>by kernel_rfl) (A1 (decide_eq_true (by omega)) (A1 ⟨(by decide),(by exact tdivN_i64 i 8 (by omega))⟩ (A1 (by(try simp only[Int.toNat_natCast,wA_size]);omega) (A1 ⟨(wA_get (by omega) (by omega)),rfl⟩ (A1 ⟨(by decide),(by exact tmodN i 8)⟩ (A1 (by omega) (A1 (by decide) (A1 (by(try simp only[Int.toNat_natCast,wA_size]);omega) (A1 (pL_put hlt (by rw[Int.toNat_natCast];omega) (fun k _=>bt_zm _ _ (po_val hL hlt) k)) (A1 (wi64 (by omega)) A0)))))))))) ⟨⟨by omega⟩,rfl⟩
structure dPoE_c (_:dPoA_c L) (i:Nat):Prop where
variable {k_3:dPoE_c k_1 i}
abbrev dPoE (_:dPoE_c k_1 i):FS:=⟨false,21,[(1,.pointer (some ⟨0,0,none⟩)),(2,.pointer (some ⟨1,0,none⟩)),(3,.pointer (some ⟨2,0,none⟩)),(4,.int .i64 ((i:Nat):Int))],[((wA .u8 16 L),(22,(0,0))),((wA .i64 128 []),(47,(0,0))),((wA .i64 128 (pL (nL L))),(47,(0,0)))]⟩
theorem dPo3 (hge:¬ i<128):dPoA_R [1,1,0,1,0,0] (dPoD k_2) (.exit 0) (fun z_=>∃(k_3:dPoE_c k_1 i),z_=dPoE k_3):=by
  have⟨hL⟩:=id k_1
  have⟨hi⟩:=id k_2
  exact rn_ev (yty.en tabV0) dPoA_h mixed (⟨false,21,[(1,.pointer (some ⟨0,0,none⟩)),(2,.pointer (some ⟨1,0,none⟩)),(3,.pointer (some ⟨2,0,none⟩)),(4,.int .i64 ((i:Nat):Int))],[((wA .u8 16 L),(22,(0,0))),((wA .i64 128 []),(47,(0,0))),((wA .i64 128 (pL (zm (nL L) i))),(47,(0,0)))]⟩) none [some (.bool false)] [(3,(decide (((i:Nat):Int)<128))=false)] 0 (fun j M=>by kernel_rfl) (A1 (decide_eq_false (by omega)) A0) ⟨⟨⟩,(by
    delta dPoE
    rw[show i=128 by omega,zm_eq,pL_mod]
    try kernel_rfl)⟩
theorem dPo4:dPoA_R [1,1,0,0] (dPoC k_1) .normal (fun z_=>∃(k_2:dPoD_c k_1 0),z_=dPoD k_2):=by
  have⟨hL⟩:=id k_1
  exact rn_ev (yty.en tabV0) dPoA_h mixed _ none [] [] 1 (fun j M=>by kernel_rfl) A0 ⟨⟨by omega⟩,rfl⟩
theorem dPo5:dPoA_R [1,1,0,1] (dPoD k_2) .normal (fun z_=>∃(i:Nat) (k_3:dPoE_c k_1 i),z_=dPoE k_3):=by
  refine rn_loop (k:=0) (w:= [1,1,0,1]) (by kernel_rfl) (fun n_ z_=>∃(i:Nat) (k_2:dPoD_c k_1 i),n_=128 - i∧z_=dPoD k_2) _ ⟨_,k_2,rfl,rfl⟩ ?_
  rintro n_ _ ⟨i,k_2,hn_,rfl⟩
  have⟨hL⟩:=k_1
  have⟨hi⟩:=k_2
  by_cases hlt:i<128
  · exact(dPo2 hlt).x fun _ ⟨k_2,e_⟩=> .inl ⟨rfl,128 - (i+1),by omega,⟨_,k_2,rfl,e_⟩⟩
  · exact(dPo3 hlt).x fun _ ⟨k_3,e_⟩=> .inr ⟨rfl,⟨i,k_3,e_⟩⟩
theorem dPo6:dPoA_R [1,1,0] (dPoC k_1) .normal (fun z_=>∃(i1:Nat) (k_3:dPoE_c k_1 i1),z_=dPoE k_3):=by
  refine rn_seq (w:= [1,1,0]) (by kernel_rfl) dPo4 ?_
  rintro _ ⟨k_2,rfl⟩
  exact dPo5
abbrev dPoF (_:dPoE_c k_1 i):FS:=⟨false,21,[(2,.pointer (some ⟨1,0,none⟩))],[((wA .u8 16 L),(22,(0,0))),((wA .i64 128 (pL (nL L))),(47,(0,0))),((wA .i64 128 (pL (nL L))),(47,(0,0)))]⟩
theorem dPo7:dPoA_R [1,1,1] (dPoE k_3) .ret (fun z_=>z_=dPoF k_3):=by
  exact rn_ev (yty.en tabV0) dPoA_h mixed _ none [] [(2,((wA .i64 128 (pL (nL L))).all (fun v=>v.oneCell')=true))] 0 (fun j M=>by kernel_rfl) (A1 (wA_one _ _ _) A0) rfl
theorem dPou':dPoA_R [] (dPoA k_1) .ret (fun z_=>∃(i12:Nat) (k_3:dPoE_c k_1 i12),z_=dPoF k_3):=by
  refine rn_seq (w:= []) (by kernel_rfl) dPo0 ?_
  rintro _ rfl
  refine rn_seq (w:= [1]) (by kernel_rfl) dPo1 ?_
  rintro _ rfl
  refine rn_seq (w:= [1,1]) (by kernel_rfl) dPo6 ?_
  rintro _ ⟨i12,k_3,rfl⟩
  exact(dPo7).mono fun _ e_=>⟨i12,k_3,e_⟩
abbrev dPoA_s (L:List Int) (j:Nat→Value):List Value:=([.agg (wA .u8 16 L)] ++ (JU 20))
abbrev dPoA_m (L:List Int):List Mb:= []
abbrev dPoF_s (L:List Int) (i:Nat) (j:Nat→Value):List Value:=([j 0,j 1,.pointer (some ⟨1,0,none⟩)] ++ (J j 3 18))
abbrev dPoF_m (L:List Int) (i:Nat):List Mb:= [((wA .u8 16 L),(22,(0,0))),((wA .i64 128 (pL (nL L))),(47,(0,0))),((wA .i64 128 (pL (nL L))),(47,(0,0)))]
theorem dPou (L:List Int) (j:Nat→Value) (hL:By L)  {c0:Prop} {ch0:List (Option Value)}:Runs Try.prog (cAt [] (bdy Try.f27)) ⟨dPoA_s L j,dPoA_m L,c0,ch0⟩ (fun e s=>e= .ret∧∃(i12:Nat) (j:Nat→Value) (c:Prop) (ch:List (Option Value)),s=⟨dPoF_s L i12 j,dPoF_m L i12,c,ch⟩) 0:=by
  refine(Rn.old (dPou' (k_1:=(⟨hL⟩:dPoA_c L))) j (by kernel_rfl)).mono ?_
  rintro e s ⟨rfl,_,⟨i12,k_3,rfl⟩,j,c,ch,rfl⟩
  exact⟨rfl,i12,j,c,ch,by kernel_rfl⟩
theorem dPo_c (L:List Int) (hL:By L):Pure Try.prog 27 #[.agg (wA .u8 16 L)] (.agg (wA .i64 128 (pL (nL L)))):=by
  refine pure_runs (E:=(yty.en tabV0)) Try.func27 (c:=bdy Try.f27) (by kernel_rfl) (args:= [.agg (wA .u8 16 L)]) (by kernel_rfl) (K:=fun e s=>e= .ret∧resS (yty.en tabV0) s Try.f27.results.toList=some [.agg (wA .i64 128 (pL (nL L)))]) ?_ (fun e s h=>⟨h.1,_,h.2,rfl⟩)
  refine(dPou L (fun _=>undef) hL).mono ?_
  rintro e s ⟨rfl,i,j,c,ch,rfl⟩
  exact⟨rfl,by kernel_rfl⟩
def dTmA_h (i:Nat):Hn:=if i=9 then⟨13,[],[],[],[]⟩ else⟨0,[],[],[],[]⟩
abbrev dTmA_R (w:List Nat) (S:FS) (e:Exit) (K:FS→Prop):Prop:=Rn Try.prog (cAt w (bdy Try.f28)) S e K 0
structure dTmA_c (a b:Nat):Prop where
  ha:a<2 ^ 128
  hb:b<2 ^ 128
variable {a b:Nat} {k_4:dTmA_c a b}
abbrev dTmA (_:dTmA_c a b):FS:=⟨true,88,[(0,.agg (wA .i64 128 (pL a))),(1,.agg (wA .i64 128 (pL b)))],[]⟩
abbrev dTmB (_:dTmA_c a b):FS:=⟨false,88,[(2,.pointer (some ⟨0,0,none⟩)),(3,.pointer (some ⟨1,0,none⟩)),(4,.pointer (some ⟨2,0,none⟩))],[((wA .i64 128 (pL a)),(47,(0,0))),((wA .i64 128 (pL b)),(47,(0,0))),((wA .i64 128 []),(47,(0,0)))]⟩
theorem dTm0:dTmA_R [0] (dTmA k_4) .normal (fun z_=>z_=dTmB k_4):=by
  exact rn_ev (yty.en tabV0) dTmA_h mixed _ none [] [] 0 (fun j M=>by kernel_rfl) A0 rfl
abbrev dTmC (_:dTmA_c a b):FS:=⟨false,88,[(2,.pointer (some ⟨0,0,none⟩)),(3,.pointer (some ⟨1,0,none⟩)),(4,.pointer (some ⟨2,0,none⟩)),(5,.pointer (some ⟨3,0,none⟩))],[((wA .i64 128 (pL a)),(47,(0,0))),((wA .i64 128 (pL b)),(47,(0,0))),((wA .i64 128 []),(47,(0,0))),((wA .i64 255 []),(63,(0,0)))]⟩
theorem dTm1:dTmA_R [1,0] (dTmB k_4) .normal (fun z_=>z_=dTmC k_4):=by
  exact rn_ev (yty.en tabV0) dTmA_h mixed _ none [] [] 0 (fun j M=>by kernel_rfl) A0 rfl
structure dTmD_c (_:dTmA_c a b) (i m:Nat):Prop where
  hm:m=cm a b i
  hi:i≤128
variable {m:Nat} {k_5:dTmD_c k_4 i m}
abbrev dTmD (_:dTmD_c k_4 i m):FS:=⟨false,88,[(2,.pointer (some ⟨0,0,none⟩)),(3,.pointer (some ⟨1,0,none⟩)),(4,.pointer (some ⟨2,0,none⟩)),(5,.pointer (some ⟨3,0,none⟩)),(6,.int .i64 ((i:Nat):Int))],[((wA .i64 128 (pL a)),(47,(0,0))),((wA .i64 128 (pL b)),(47,(0,0))),((wA .i64 128 []),(47,(0,0))),((wA .i64 255 (pW m)),(63,(0,0)))]⟩
theorem dTm2:dTmA_R [1,1,0,0] (dTmC k_4) .normal (fun z_=>∃(k_5:dTmD_c k_4 0 0),z_=dTmD k_5):=by
  have⟨ha,hb⟩:=id k_4
  exact rn_ev (yty.en tabV0) dTmA_h mixed (⟨false,88,[(2,.pointer (some ⟨0,0,none⟩)),(3,.pointer (some ⟨1,0,none⟩)),(4,.pointer (some ⟨2,0,none⟩)),(5,.pointer (some ⟨3,0,none⟩)),(6,.int .i64 0)],[((wA .i64 128 (pL a)),(47,(0,0))),((wA .i64 128 (pL b)),(47,(0,0))),((wA .i64 128 []),(47,(0,0))),((wA .i64 255 []),(63,(0,0)))]⟩) none [] [] 1 (fun j M=>by kernel_rfl) A0 ⟨⟨rfl,by omega⟩,(by
    delta dTmD
    rw[pW_0]
    try kernel_rfl)⟩
theorem dTm3 (hlt:i<128) (hb0:a.testBit i=false):dTmA_R [1,1,0,1,0,0] (dTmD k_5) .normal (fun z_=>∃(k_5:dTmD_c k_4 (i+1) m),z_=dTmD k_5):=by
  have⟨ha,hb⟩:=id k_4
  have⟨hm,hi⟩:=id k_5
  exact rn_ev (yty.en tabV0) dTmA_h mixed _ none [some (.bool true),some (.int .i64 ((pL a).getD i 0)),some (.bool true),some (.int .i64 ((i+1:Nat):Int))] [(3,(decide (((i:Nat):Int)<128))=true),(2,(0≤((i:Nat):Int)∧((i:Nat):Int)<((128:Nat):Int))),(0,(((wA .i64 128 (pL a))[(0+Int.toNat ((i:Nat):Int)*1)]? =some (.int .i64 ((pL a).getD i 0)))∧((pL a).getD i 0)=((pL a).getD i 0))),(1,(decide (((pL a).getD i 0)=0))=true),(3,(IntKind.i64.wrap (((i:Nat):Int)+1))=((i+1:Nat):Int))] 1 (fun j M=>by kernel_rfl) (A1 (decide_eq_true (by omega)) (A1 (by(try simp only[Int.toNat_natCast,wA_size]);omega) (A1 ⟨(wA_get (by omega) (by omega)),rfl⟩ (A1 (decide_eq_true (by rw[pL_at hlt];unfold bti;rw[hb0];rfl)) (A1 (wi64 (by omega)) A0))))) ⟨⟨by rw[hm,cm,hb0];exact(Nat.xor_zero _).symm,by omega⟩,rfl⟩
structure dTmE_c (_:dTmD_c k_4 i m):Prop where
  hi1:i<128
  hb0:¬ a.testBit i=false
variable {k_6:dTmE_c k_5}
abbrev dTmE (_:dTmE_c k_5):FS:=⟨false,88,[(2,.pointer (some ⟨0,0,none⟩)),(3,.pointer (some ⟨1,0,none⟩)),(4,.pointer (some ⟨2,0,none⟩)),(5,.pointer (some ⟨3,0,none⟩)),(6,.int .i64 ((i:Nat):Int))],[((wA .i64 128 (pL a)),(47,(0,0))),((wA .i64 128 (pL b)),(47,(0,0))),((wA .i64 128 []),(47,(0,0))),((wA .i64 255 (pW m)),(63,(0,0)))]⟩
theorem dTm4 (hlt:i<128) (hb0:¬ a.testBit i=false):dTmA_R [1,1,0,1,0,0,0] (dTmD k_5) .normal (fun z_=>∃(k_6:dTmE_c k_5),z_=dTmE k_6):=by
  have⟨ha,hb⟩:=id k_4
  have⟨hm,hi⟩:=id k_5
  exact rn_ev (yty.en tabV0) dTmA_h mixed _ none [some (.bool true)] [(3,(decide (((i:Nat):Int)<128))=true)] 0 (fun j M=>by kernel_rfl) (A1 (decide_eq_true (by omega)) A0) ⟨⟨hlt,hb0⟩,rfl⟩
theorem dTm5:dTmA_R [1,1,0,1,0,0,1,0,0,0] (dTmE k_6) .normal (fun z_=>z_=dTmE k_6):=by
  have⟨ha,hb⟩:=id k_4
  have⟨hm,hi⟩:=id k_5
  have⟨hi1,hb0⟩:=id k_6
  exact rn_ev (yty.en tabV0) dTmA_h mixed _ none [some (.int .i64 ((pL a).getD i 0)),some (.bool false)] [(2,(0≤((i:Nat):Int)∧((i:Nat):Int)<((128:Nat):Int))),(0,(((wA .i64 128 (pL a))[(0+Int.toNat ((i:Nat):Int)*1)]? =some (.int .i64 ((pL a).getD i 0)))∧((pL a).getD i 0)=((pL a).getD i 0))),(1,(decide (((pL a).getD i 0)=0))=false)] 0 (fun j M=>by kernel_rfl) (A1 (by(try simp only[Int.toNat_natCast,wA_size]);omega) (A1 ⟨(wA_get (by omega) (by omega)),rfl⟩ (A1 (decide_eq_false (by rw[pL_at hi1];unfold bti;rw[tb_of hb0];decide)) A0))) rfl
structure dTmF_c (_:dTmE_c k_5) (k:Nat):Prop where
  hk:k≤128
variable {k:Nat} {k_7:dTmF_c k_6 k}
abbrev dTmF (_:dTmF_c k_6 k):FS:=⟨false,88,[(2,.pointer (some ⟨0,0,none⟩)),(3,.pointer (some ⟨1,0,none⟩)),(4,.pointer (some ⟨2,0,none⟩)),(5,.pointer (some ⟨3,0,none⟩)),(6,.int .i64 ((i:Nat):Int)),(7,.int .i64 ((k:Nat):Int))],[((wA .i64 128 (pL a)),(47,(0,0))),((wA .i64 128 (pL b)),(47,(0,0))),((wA .i64 128 []),(47,(0,0))),((wA .i64 255 (pW (m ^^^ ((b%2 ^ k) <<< i)))),(63,(0,0)))]⟩
theorem dTm6:dTmA_R [1,1,0,1,0,0,1,0,0,1,0] (dTmE k_6) .normal (fun z_=>∃(k_7:dTmF_c k_6 0),z_=dTmF k_7):=by
  have⟨ha,hb⟩:=id k_4
  have⟨hm,hi⟩:=id k_5
  have⟨hi1,hb0⟩:=id k_6
  exact rn_ev (yty.en tabV0) dTmA_h mixed (⟨false,88,[(2,.pointer (some ⟨0,0,none⟩)),(3,.pointer (some ⟨1,0,none⟩)),(4,.pointer (some ⟨2,0,none⟩)),(5,.pointer (some ⟨3,0,none⟩)),(6,.int .i64 ((i:Nat):Int)),(7,.int .i64 0)],[((wA .i64 128 (pL a)),(47,(0,0))),((wA .i64 128 (pL b)),(47,(0,0))),((wA .i64 128 []),(47,(0,0))),((wA .i64 255 (pW m)),(63,(0,0)))]⟩) none [] [] 1 (fun j M=>by kernel_rfl) A0 ⟨⟨by omega⟩,(by
    delta dTmF
    rw[show pW m=pW (m ^^^ ((b%2 ^ 0) <<< i)) from by simp[Nat.mod_one]]
    try kernel_rfl)⟩
theorem dTm7 (hlt:k<128):dTmA_R [1,1,0,1,0,0,1,0,0,1,1,0,0] (dTmF k_7) .normal (fun z_=>∃(k_7:dTmF_c k_6 (k+1)),z_=dTmF k_7):=by
  have⟨ha,hb⟩:=id k_4
  have⟨hm,hi⟩:=id k_5
  have⟨hi1,hb0⟩:=id k_6
  have⟨hk⟩:=id k_7
  exact rn_ev (yty.en tabV0) dTmA_h mixed _ none [some (.bool true),some (.int .i64 ((i+k:Nat):Int)),some (.int .i64 ((i+k:Nat):Int)),some (.int .i64 ((pW (m ^^^ ((b%2 ^ k) <<< i))).getD (i+k) 0)),some (.int .i64 ((pL b).getD k 0)),none,some (.agg (wA .i64 255 (pW (m ^^^ ((b%2 ^ (k+1)) <<< i))))),some (.int .i64 ((k+1:Nat):Int))] [(3,(decide (((k:Nat):Int)<128))=true),(5,(IntKind.i64.wrap (((i:Nat):Int)+((k:Nat):Int)))=((i+k:Nat):Int)),(5,(IntKind.i64.wrap (((i:Nat):Int)+((k:Nat):Int)))=((i+k:Nat):Int)),(0,(0≤((i+k:Nat):Int)∧((i+k:Nat):Int)<((255:Nat):Int))),(0,(((wA .i64 255 (pW (m ^^^ ((b%2 ^ k) <<< i))))[(0+Int.toNat ((i+k:Nat):Int)*1)]? =some (.int .i64 ((pW (m ^^^ ((b%2 ^ k) <<< i))).getD (i+k) 0)))∧((pW (m ^^^ ((b%2 ^ k) <<< i))).getD (i+k) 0)=((pW (m ^^^ ((b%2 ^ k) <<< i))).getD (i+k) 0))),(2,(0≤((k:Nat):Int)∧((k:Nat):Int)<((128:Nat):Int))),(0,(((wA .i64 128 (pL b))[(0+Int.toNat ((k:Nat):Int)*1)]? =some (.int .i64 ((pL b).getD k 0)))∧((pL b).getD k 0)=((pL b).getD k 0))),(2,(0≤((i+k:Nat):Int)∧((i+k:Nat):Int)<((255:Nat):Int))),(0,((0+Int.toNat ((i+k:Nat):Int)*1)<(wA .i64 255 (pW (m ^^^ ((b%2 ^ k) <<< i)))).size∧(wA .i64 255 (pW (m ^^^ ((b%2 ^ k) <<< i)))).setIfInBounds (0+Int.toNat ((i+k:Nat):Int)*1) (.int .i64 (bits .xor .i64 ((pW (m ^^^ ((b%2 ^ k) <<< i))).getD (i+k) 0) ((pL b).getD k 0)))=(wA .i64 255 (pW (m ^^^ ((b%2 ^ (k+1)) <<< i)))))),(3,(IntKind.i64.wrap (((k:Nat):Int)+1))=((k+1:Nat):Int))] 1 (fun j M=>by kernel_rfl) (A1 (decide_eq_true (by omega)) (A1 (wi64 (by omega)) (A1 (wi64 (by omega)) (A1 (by(try simp only[Int.toNat_natCast,wA_size]);omega) (A1 ⟨(wA_get (by omega) (by omega)),rfl⟩ (A1 (by(try simp only[Int.toNat_natCast,wA_size]);omega) (A1 ⟨(wA_get (by omega) (by omega)),rfl⟩ (A1 (by(try simp only[Int.toNat_natCast,wA_size]);omega) (A1 (pW_put (by omega) (by rw[Int.toNat_natCast];omega) (fun q _=>bt_part m b i k (by rw[pW_at (by omega),pL_at hlt,xbt]) q)) (A1 (wi64 (by omega)) A0)))))))))) ⟨⟨by omega⟩,rfl⟩
structure dTmG_c (_:dTmE_c k_5) (k:Nat):Prop where
variable {k_8:dTmG_c k_6 k}
abbrev dTmG (_:dTmG_c k_6 k):FS:=⟨false,88,[(2,.pointer (some ⟨0,0,none⟩)),(3,.pointer (some ⟨1,0,none⟩)),(4,.pointer (some ⟨2,0,none⟩)),(5,.pointer (some ⟨3,0,none⟩)),(6,.int .i64 ((i:Nat):Int))],[((wA .i64 128 (pL a)),(47,(0,0))),((wA .i64 128 (pL b)),(47,(0,0))),((wA .i64 128 []),(47,(0,0))),((wA .i64 255 (pW (m ^^^ (b <<< i)))),(63,(0,0)))]⟩
theorem dTm8 (hge:¬ k<128):dTmA_R [1,1,0,1,0,0,1,0,0,1,1,0,0] (dTmF k_7) (.exit 2) (fun z_=>∃(k_8:dTmG_c k_6 k),z_=dTmG k_8):=by
  have⟨ha,hb⟩:=id k_4
  have⟨hm,hi⟩:=id k_5
  have⟨hi1,hb0⟩:=id k_6
  have⟨hk⟩:=id k_7
  exact rn_ev (yty.en tabV0) dTmA_h mixed (⟨false,88,[(2,.pointer (some ⟨0,0,none⟩)),(3,.pointer (some ⟨1,0,none⟩)),(4,.pointer (some ⟨2,0,none⟩)),(5,.pointer (some ⟨3,0,none⟩)),(6,.int .i64 ((i:Nat):Int))],[((wA .i64 128 (pL a)),(47,(0,0))),((wA .i64 128 (pL b)),(47,(0,0))),((wA .i64 128 []),(47,(0,0))),((wA .i64 255 (pW (m ^^^ ((b%2 ^ k) <<< i)))),(63,(0,0)))]⟩) none [some (.bool false)] [(3,(decide (((k:Nat):Int)<128))=false)] 0 (fun j M=>by kernel_rfl) (A1 (decide_eq_false (by omega)) A0) ⟨⟨⟩,(by
    delta dTmG
    rw[show k=128 by omega,Nat.mod_eq_of_lt hb]
    try kernel_rfl)⟩
theorem dTm9:dTmA_R [1,1,0,1,0,0,1,0,0,1,1] (dTmF k_7) .normal (fun z_=>∃(k:Nat) (k_8:dTmG_c k_6 k),z_=dTmG k_8):=by
  refine rn_loop (k:=2) (w:= [1,1,0,1,0,0,1,0,0,1,1]) (by kernel_rfl) (fun n_ z_=>∃(k:Nat) (k_7:dTmF_c k_6 k),n_=128 - k∧z_=dTmF k_7) _ ⟨_,k_7,rfl,rfl⟩ ?_
  rintro n_ _ ⟨k,k_7,hn_,rfl⟩
  have⟨ha,hb⟩:=k_4
  have⟨hm,hi⟩:=k_5
  have⟨hi1,hb0⟩:=k_6
  have⟨hk⟩:=k_7
  by_cases hlt:k<128
  · exact(dTm7 hlt).x fun _ ⟨k_7,e_⟩=> .inl ⟨rfl,128 - (k+1),by omega,⟨_,k_7,rfl,e_⟩⟩
  · exact(dTm8 hlt).x fun _ ⟨k_8,e_⟩=> .inr ⟨rfl,⟨k,k_8,e_⟩⟩
theorem dTm0a:dTmA_R [1,1,0,1,0,0,1,0,0,1] (dTmE k_6) .normal (fun z_=>∃(k1:Nat) (k_8:dTmG_c k_6 k1),z_=dTmG k_8):=by
  refine rn_seq (w:= [1,1,0,1,0,0,1,0,0,1]) (by kernel_rfl) dTm6 ?_
  rintro _ ⟨k_7,rfl⟩
  exact dTm9
theorem dTm0b:dTmA_R [1,1,0,1,0,0,1,0,0] (dTmE k_6) .normal (fun z_=>∃(k11:Nat) (k_8:dTmG_c k_6 k11),z_=dTmG k_8):=by
  refine rn_seq (w:= [1,1,0,1,0,0,1,0,0]) (by kernel_rfl) dTm5 ?_
  rintro _ rfl
  exact dTm0a
theorem dTm0c:dTmA_R [1,1,0,1,0,0,1,0] (dTmE k_6) .normal (fun z_=>∃(k11:Nat) (k_8:dTmG_c k_6 k11),z_=dTmG k_8):=by
  exact rn_block (k:=1) (w:= [1,1,0,1,0,0,1,0]) (by kernel_rfl) dTm0b
theorem dTm0d:dTmA_R [1,1,0,1,0,0,1,1] (dTmG k_8) .normal (fun z_=>∃(k_5:dTmD_c k_4 (i+1) (m ^^^ (b <<< i))),z_=dTmD k_5):=by
  have⟨ha,hb⟩:=id k_4
  have⟨hm,hi⟩:=id k_5
  have⟨hi1,hb0⟩:=id k_6
  exact rn_ev (yty.en tabV0) dTmA_h mixed _ none [some (.int .i64 ((i+1:Nat):Int))] [(3,(IntKind.i64.wrap (((i:Nat):Int)+1))=((i+1:Nat):Int))] 1 (fun j M=>by kernel_rfl) (A1 (wi64 (by omega)) A0) ⟨⟨by rw[hm,cm,tb_of hb0];rfl,by omega⟩,rfl⟩
theorem dTm0e:dTmA_R [1,1,0,1,0,0,1] (dTmE k_6) .normal (fun z_=>∃(k110:Nat) (k_5:dTmD_c k_4 (i+1) (m ^^^ (b <<< i))),z_=dTmD k_5):=by
  refine rn_seq (w:= [1,1,0,1,0,0,1]) (by kernel_rfl) dTm0c ?_
  rintro _ ⟨k110,k_8,rfl⟩
  exact(dTm0d).mono fun _ ⟨k_5,e_⟩=>⟨k110,k_5,e_⟩
theorem dTm0f (hlt:i<128) (hb0:¬ a.testBit i=false):dTmA_R [1,1,0,1,0,0] (dTmD k_5) .normal (fun z_=>∃(k1101:Nat) (k_5:dTmD_c k_4 (i+1) (m ^^^ (b <<< i))),z_=dTmD k_5):=by
  refine rn_seq (w:= [1,1,0,1,0,0]) (by kernel_rfl) (dTm4 hlt hb0) ?_
  rintro _ ⟨k_6,rfl⟩
  exact dTm0e
theorem dTm0g (hlt:i<128):dTmA_R [1,1,0,1,0,0] (dTmD k_5) .normal (fun z_=>∃(m2:Nat) (k_5:dTmD_c k_4 (i+1) m2),z_=dTmD k_5):=by
  by_cases hb0:a.testBit i=false
  · exact(dTm3 hlt hb0).mono fun _ ⟨k_5,e_⟩=>⟨_,k_5,e_⟩
  · exact(dTm0f hlt hb0).mono fun _ ⟨k1101,k_5,e_⟩=>⟨_,k_5,e_⟩
structure dTmH_c (_:dTmA_c a b) (i m:Nat):Prop where
  hm:m=cm a b 128
variable {k_9:dTmH_c k_4 i m}
abbrev dTmH (_:dTmH_c k_4 i m):FS:=⟨false,88,[(2,.pointer (some ⟨0,0,none⟩)),(3,.pointer (some ⟨1,0,none⟩)),(4,.pointer (some ⟨2,0,none⟩)),(5,.pointer (some ⟨3,0,none⟩))],[((wA .i64 128 (pL a)),(47,(0,0))),((wA .i64 128 (pL b)),(47,(0,0))),((wA .i64 128 []),(47,(0,0))),((wA .i64 255 (pW m)),(63,(0,0)))]⟩
theorem dTm0h (hge:¬ i<128):dTmA_R [1,1,0,1,0,0] (dTmD k_5) (.exit 0) (fun z_=>∃(k_9:dTmH_c k_4 i m),z_=dTmH k_9):=by
  have⟨ha,hb⟩:=id k_4
  have⟨hm,hi⟩:=id k_5
  exact rn_ev (yty.en tabV0) dTmA_h mixed _ none [some (.bool false)] [(3,(decide (((i:Nat):Int)<128))=false)] 0 (fun j M=>by kernel_rfl) (A1 (decide_eq_false (by omega)) A0) ⟨⟨by rw[hm,show i=128 by omega]⟩,rfl⟩
theorem dTm0i:dTmA_R [1,1,0,1] (dTmD k_5) .normal (fun z_=>∃(i m:Nat) (k_9:dTmH_c k_4 i m),z_=dTmH k_9):=by
  refine rn_loop (k:=0) (w:= [1,1,0,1]) (by kernel_rfl) (fun n_ z_=>∃(i m:Nat) (k_5:dTmD_c k_4 i m),n_=128 - i∧z_=dTmD k_5) _ ⟨_,_,k_5,rfl,rfl⟩ ?_
  rintro n_ _ ⟨i,m,k_5,hn_,rfl⟩
  have⟨ha,hb⟩:=k_4
  have⟨hm,hi⟩:=k_5
  by_cases hlt:i<128
  · exact(dTm0g hlt).x fun _ ⟨m2_,k_5,e_⟩=> .inl ⟨rfl,128 - (i+1),by omega,⟨_,_,k_5,rfl,e_⟩⟩
  · exact(dTm0h hlt).x fun _ ⟨k_9,e_⟩=> .inr ⟨rfl,⟨i,m,k_9,e_⟩⟩
theorem dTm0j:dTmA_R [1,1,0] (dTmC k_4) .normal (fun z_=>∃(i1 m1:Nat) (k_9:dTmH_c k_4 i1 m1),z_=dTmH k_9):=by
  refine rn_seq (w:= [1,1,0]) (by kernel_rfl) dTm2 ?_
  rintro _ ⟨k_5,rfl⟩
  exact dTm0i
structure dTmI_c (_:dTmA_c a b) (d m:Nat):Prop where
  hm:m=rd (cm a b 128) d
  hd:d≤127
variable {d:Nat} {k_10:dTmI_c k_4 d m}
abbrev dTmI (_:dTmI_c k_4 d m):FS:=⟨false,88,[(2,.pointer (some ⟨0,0,none⟩)),(3,.pointer (some ⟨1,0,none⟩)),(4,.pointer (some ⟨2,0,none⟩)),(5,.pointer (some ⟨3,0,none⟩)),(8,.int .i64 ((254 - d:Nat):Int))],[((wA .i64 128 (pL a)),(47,(0,0))),((wA .i64 128 (pL b)),(47,(0,0))),((wA .i64 128 []),(47,(0,0))),((wA .i64 255 (pW m)),(63,(0,0)))]⟩
theorem dTm0k:dTmA_R [1,1,1,0,0] (dTmH k_9) .normal (fun z_=>∃(k_10:dTmI_c k_4 0 m),z_=dTmI k_10):=by
  have⟨ha,hb⟩:=id k_4
  have⟨hm⟩:=id k_9
  exact rn_ev (yty.en tabV0) dTmA_h mixed _ none [] [] 1 (fun j M=>by kernel_rfl) A0 ⟨⟨hm,by omega⟩,rfl⟩
theorem dTm0l (hlt:d<127) (hb0:m.testBit (254 - d)=false):dTmA_R [1,1,1,0,1,0,0] (dTmI k_10) .normal (fun z_=>∃(k_10:dTmI_c k_4 (d+1) m),z_=dTmI k_10):=by
  have⟨ha,hb⟩:=id k_4
  have⟨hm,hd⟩:=id k_10
  exact rn_ev (yty.en tabV0) dTmA_h mixed _ none [some (.bool true),some (.int .i64 ((pW m).getD (254 - d) 0)),some (.bool false),some (.int .i64 ((254 - d - 1:Nat):Int))] [(3,(decide (128≤((254 - d:Nat):Int)))=true),(2,(0≤((254 - d:Nat):Int)∧((254 - d:Nat):Int)<((255:Nat):Int))),(0,(((wA .i64 255 (pW m))[(0+Int.toNat ((254 - d:Nat):Int)*1)]? =some (.int .i64 ((pW m).getD (254 - d) 0)))∧((pW m).getD (254 - d) 0)=((pW m).getD (254 - d) 0))),(1,(decide (((pW m).getD (254 - d) 0)=1))=false),(3,(IntKind.i64.wrap (((254 - d:Nat):Int) - 1))=((254 - d - 1:Nat):Int))] 1 (fun j M=>by kernel_rfl) (A1 (decide_eq_true (by omega)) (A1 (by(try simp only[Int.toNat_natCast,wA_size]);omega) (A1 ⟨(wA_get (by omega) (by omega)),rfl⟩ (A1 (decide_eq_false (by rw[pW_at (by omega)];unfold bti;rw[hb0];decide)) (A1 (wi64 (by omega)) A0))))) ⟨⟨by rw[rd,← hm,hb0];exact(Nat.xor_zero _).symm,by omega⟩,rfl⟩
theorem dTm0m (hlt:d<127) (hb0:¬ m.testBit (254 - d)=false):dTmA_R [1,1,1,0,1,0,0] (dTmI k_10) .normal (fun z_=>∃(k_10:dTmI_c k_4 (d+1) (((((m ^^^ 2 ^ (254 - d)) ^^^ 2 ^ (254 - d - 1)) ^^^ 2 ^ (254 - d - 2)) ^^^ 2 ^ (254 - d - 7)) ^^^ 2 ^ (254 - d - 128))),z_=dTmI k_10):=by
  have⟨ha,hb⟩:=id k_4
  have⟨hm,hd⟩:=id k_10
  exact rn_ev (yty.en tabV0) dTmA_h mixed _ none [some (.bool true),some (.int .i64 ((pW m).getD (254 - d) 0)),some (.bool true),some (.agg (wA .i64 255 (pW (m ^^^ 2 ^ (254 - d))))),some (.int .i64 ((254 - d - 1:Nat):Int)),some (.int .i64 ((254 - d - 1:Nat):Int)),some (.int .i64 ((pW (m ^^^ 2 ^ (254 - d))).getD (254 - d - 1) 0)),none,some (.agg (wA .i64 255 (pW ((m ^^^ 2 ^ (254 - d)) ^^^ 2 ^ (254 - d - 1))))),some (.int .i64 ((254 - d - 2:Nat):Int)),some (.int .i64 ((254 - d - 2:Nat):Int)),some (.int .i64 ((pW ((m ^^^ 2 ^ (254 - d)) ^^^ 2 ^ (254 - d - 1))).getD (254 - d - 2) 0)),none,some (.agg (wA .i64 255 (pW (((m ^^^ 2 ^ (254 - d)) ^^^ 2 ^ (254 - d - 1)) ^^^ 2 ^ (254 - d - 2))))),some (.int .i64 ((254 - d - 7:Nat):Int)),some (.int .i64 ((254 - d - 7:Nat):Int)),some (.int .i64 ((pW (((m ^^^ 2 ^ (254 - d)) ^^^ 2 ^ (254 - d - 1)) ^^^ 2 ^ (254 - d - 2))).getD (254 - d - 7) 0)),none,some (.agg (wA .i64 255 (pW ((((m ^^^ 2 ^ (254 - d)) ^^^ 2 ^ (254 - d - 1)) ^^^ 2 ^ (254 - d - 2)) ^^^ 2 ^ (254 - d - 7))))),some (.int .i64 ((254 - d - 128:Nat):Int)),some (.int .i64 ((254 - d - 128:Nat):Int)),some (.int .i64 ((pW ((((m ^^^ 2 ^ (254 - d)) ^^^ 2 ^ (254 - d - 1)) ^^^ 2 ^ (254 - d - 2)) ^^^ 2 ^ (254 - d - 7))).getD (254 - d - 128) 0)),none,some (.agg (wA .i64 255 (pW (((((m ^^^ 2 ^ (254 - d)) ^^^ 2 ^ (254 - d - 1)) ^^^ 2 ^ (254 - d - 2)) ^^^ 2 ^ (254 - d - 7)) ^^^ 2 ^ (254 - d - 128))))),some (.int .i64 ((254 - d - 1:Nat):Int))] [(3,(decide (128≤((254 - d:Nat):Int)))=true),(2,(0≤((254 - d:Nat):Int)∧((254 - d:Nat):Int)<((255:Nat):Int))),(0,(((wA .i64 255 (pW m))[(0+Int.toNat ((254 - d:Nat):Int)*1)]? =some (.int .i64 ((pW m).getD (254 - d) 0)))∧((pW m).getD (254 - d) 0)=((pW m).getD (254 - d) 0))),(1,(decide (((pW m).getD (254 - d) 0)=1))=true),(2,(0≤((254 - d:Nat):Int)∧((254 - d:Nat):Int)<((255:Nat):Int))),(0,((0+Int.toNat ((254 - d:Nat):Int)*1)<(wA .i64 255 (pW m)).size∧(wA .i64 255 (pW m)).setIfInBounds (0+Int.toNat ((254 - d:Nat):Int)*1) (.int .i64 0)=(wA .i64 255 (pW (m ^^^ 2 ^ (254 - d)))))),(3,(IntKind.i64.wrap (((254 - d:Nat):Int) - 1))=((254 - d - 1:Nat):Int)),(3,(IntKind.i64.wrap (((254 - d:Nat):Int) - 1))=((254 - d - 1:Nat):Int)),(0,(0≤((254 - d - 1:Nat):Int)∧((254 - d - 1:Nat):Int)<((255:Nat):Int))),(0,(((wA .i64 255 (pW (m ^^^ 2 ^ (254 - d))))[(0+Int.toNat ((254 - d - 1:Nat):Int)*1)]? =some (.int .i64 ((pW (m ^^^ 2 ^ (254 - d))).getD (254 - d - 1) 0)))∧((pW (m ^^^ 2 ^ (254 - d))).getD (254 - d - 1) 0)=((pW (m ^^^ 2 ^ (254 - d))).getD (254 - d - 1) 0))),(2,(0≤((254 - d - 1:Nat):Int)∧((254 - d - 1:Nat):Int)<((255:Nat):Int))),(0,((0+Int.toNat ((254 - d - 1:Nat):Int)*1)<(wA .i64 255 (pW (m ^^^ 2 ^ (254 - d)))).size∧(wA .i64 255 (pW (m ^^^ 2 ^ (254 - d)))).setIfInBounds (0+Int.toNat ((254 - d - 1:Nat):Int)*1) (.int .i64 (bits .xor .i64 ((pW (m ^^^ 2 ^ (254 - d))).getD (254 - d - 1) 0) 1))=(wA .i64 255 (pW ((m ^^^ 2 ^ (254 - d)) ^^^ 2 ^ (254 - d - 1)))))),(3,(IntKind.i64.wrap (((254 - d:Nat):Int) - 2))=((254 - d - 2:Nat):Int)),(3,(IntKind.i64.wrap (((254 - d:Nat):Int) - 2))=((254 - d - 2:Nat):Int)),(0,(0≤((254 - d - 2:Nat):Int)∧((254 - d - 2:Nat):Int)<((255:Nat):Int))),(0,(((wA .i64 255 (pW ((m ^^^ 2 ^ (254 - d)) ^^^ 2 ^ (254 - d - 1))))[(0+Int.toNat ((254 - d - 2:Nat):Int)*1)]? =some (.int .i64 ((pW ((m ^^^ 2 ^ (254 - d)) ^^^ 2 ^ (254 - d - 1))).getD (254 - d - 2) 0)))∧((pW ((m ^^^ 2 ^ (254 - d)) ^^^ 2 ^ (254 - d - 1))).getD (254 - d - 2) 0)=((pW ((m ^^^ 2 ^ (254 - d)) ^^^ 2 ^ (254 - d - 1))).getD (254 - d - 2) 0))),(2,(0≤((254 - d - 2:Nat):Int)∧((254 - d - 2:Nat):Int)<((255:Nat):Int))),(0,((0+Int.toNat ((254 - d - 2:Nat):Int)*1)<(wA .i64 255 (pW ((m ^^^ 2 ^ (254 - d)) ^^^ 2 ^ (254 - d - 1)))).size∧(wA .i64 255 (pW ((m ^^^ 2 ^ (254 - d)) ^^^ 2 ^ (254 - d - 1)))).setIfInBounds (0+Int.toNat ((254 - d - 2:Nat):Int)*1) (.int .i64 (bits .xor .i64 ((pW ((m ^^^ 2 ^ (254 - d)) ^^^ 2 ^ (254 - d - 1))).getD (254 - d - 2) 0) 1))=(wA .i64 255 (pW (((m ^^^ 2 ^ (254 - d)) ^^^ 2 ^ (254 - d - 1)) ^^^ 2 ^ (254 - d - 2)))))),(3,(IntKind.i64.wrap (((254 - d:Nat):Int) - 7))=((254 - d - 7:Nat):Int)),(3,(IntKind.i64.wrap (((254 - d:Nat):Int) - 7))=((254 - d - 7:Nat):Int)),(0,(0≤((254 - d - 7:Nat):Int)∧((254 - d - 7:Nat):Int)<((255:Nat):Int))),(0,(((wA .i64 255 (pW (((m ^^^ 2 ^ (254 - d)) ^^^ 2 ^ (254 - d - 1)) ^^^ 2 ^ (254 - d - 2))))[(0+Int.toNat ((254 - d - 7:Nat):Int)*1)]? =some (.int .i64 ((pW (((m ^^^ 2 ^ (254 - d)) ^^^ 2 ^ (254 - d - 1)) ^^^ 2 ^ (254 - d - 2))).getD (254 - d - 7) 0)))∧((pW (((m ^^^ 2 ^ (254 - d)) ^^^ 2 ^ (254 - d - 1)) ^^^ 2 ^ (254 - d - 2))).getD (254 - d - 7) 0)=((pW (((m ^^^ 2 ^ (254 - d)) ^^^ 2 ^ (254 - d - 1)) ^^^ 2 ^ (254 - d - 2))).getD (254 - d - 7) 0))),(2,(0≤((254 - d - 7:Nat):Int)∧((254 - d - 7:Nat):Int)<((255:Nat):Int))),(0,((0+Int.toNat ((254 - d - 7:Nat):Int)*1)<(wA .i64 255 (pW (((m ^^^ 2 ^ (254 - d)) ^^^ 2 ^ (254 - d - 1)) ^^^ 2 ^ (254 - d - 2)))).size∧(wA .i64 255 (pW (((m ^^^ 2 ^ (254 - d)) ^^^ 2 ^ (254 - d - 1)) ^^^ 2 ^ (254 - d - 2)))).setIfInBounds (0+Int.toNat ((254 - d - 7:Nat):Int)*1) (.int .i64 (bits .xor .i64 ((pW (((m ^^^ 2 ^ (254 - d)) ^^^ 2 ^ (254 - d - 1)) ^^^ 2 ^ (254 - d - 2))).getD (254 - d - 7) 0) 1))=(wA .i64 255 (pW ((((m ^^^ 2 ^ (254 - d)) ^^^ 2 ^ (254 - d - 1)) ^^^ 2 ^ (254 - d - 2)) ^^^ 2 ^ (254 - d - 7)))))),(3,(IntKind.i64.wrap (((254 - d:Nat):Int) - 128))=((254 - d - 128:Nat):Int)),(3,(IntKind.i64.wrap (((254 - d:Nat):Int) - 128))=((254 - d - 128:Nat):Int)),(0,(0≤((254 - d - 128:Nat):Int)∧((254 - d - 128:Nat):Int)<((255:Nat):Int))),(0,(((wA .i64 255 (pW ((((m ^^^ 2 ^ (254 - d)) ^^^ 2 ^ (254 - d - 1)) ^^^ 2 ^ (254 - d - 2)) ^^^ 2 ^ (254 - d - 7))))[(0+Int.toNat ((254 - d - 128:Nat):Int)*1)]? =some (.int .i64 ((pW ((((m ^^^ 2 ^ (254 - d)) ^^^ 2 ^ (254 - d - 1)) ^^^ 2 ^ (254 - d - 2)) ^^^ 2 ^ (254 - d - 7))).getD (254 - d - 128) 0)))∧((pW ((((m ^^^ 2 ^ (254 - d)) ^^^ 2 ^ (254 - d - 1)) ^^^ 2 ^ (254 - d - 2)) ^^^ 2 ^ (254 - d - 7))).getD (254 - d - 128) 0)=((pW ((((m ^^^ 2 ^ (254 - d)) ^^^ 2 ^ (254 - d - 1)) ^^^ 2 ^ (254 - d - 2)) ^^^ 2 ^ (254 - d - 7))).getD (254 - d - 128) 0))),(2,(0≤((254 - d - 128:Nat):Int)∧((254 - d - 128:Nat):Int)<((255:Nat):Int))),(0,((0+Int.toNat ((254 - d - 128:Nat):Int)*1)<(wA .i64 255 (pW ((((m ^^^ 2 ^ (254 - d)) ^^^ 2 ^ (254 - d - 1)) ^^^ 2 ^ (254 - d - 2)) ^^^ 2 ^ (254 - d - 7)))).size∧(wA .i64 255 (pW ((((m ^^^ 2 ^ (254 - d)) ^^^ 2 ^ (254 - d - 1)) ^^^ 2 ^ (254 - d - 2)) ^^^ 2 ^ (254 - d - 7)))).setIfInBounds (0+Int.toNat ((254 - d - 128:Nat):Int)*1) (.int .i64 (bits .xor .i64 ((pW ((((m ^^^ 2 ^ (254 - d)) ^^^ 2 ^ (254 - d - 1)) ^^^ 2 ^ (254 - d - 2)) ^^^ 2 ^ (254 - d - 7))).getD (254 - d - 128) 0) 1))=(wA .i64 255 (pW (((((m ^^^ 2 ^ (254 - d)) ^^^ 2 ^ (254 - d - 1)) ^^^ 2 ^ (254 - d - 2)) ^^^ 2 ^ (254 - d - 7)) ^^^ 2 ^ (254 - d - 128)))))),(3,(IntKind.i64.wrap (((254 - d:Nat):Int) - 1))=((254 - d - 1:Nat):Int))] 1 (fun j M=>by kernel_rfl) (A1 (decide_eq_true (by omega)) (A1 (by(try simp only[Int.toNat_natCast,wA_size]);omega) (A1 ⟨(wA_get (by omega) (by omega)),rfl⟩ (A1 (decide_eq_true (by rw[pW_at (by omega)];unfold bti;rw[tb_of hb0];rfl)) (A1 (by(try simp only[Int.toNat_natCast,wA_size]);omega) (A1 (pW_put (by omega) (by rw[Int.toNat_natCast];omega) (fun k _=>bt_flip m (254 - d) (by rw[tb_of hb0];rfl) k)) (A1 (wi64 (by omega)) (A1 (wi64 (by omega)) (A1 (by(try simp only[Int.toNat_natCast,wA_size]);omega) (A1 ⟨(wA_get (by omega) (by omega)),rfl⟩ (A1 (by(try simp only[Int.toNat_natCast,wA_size]);omega) (A1 (pW_put (by omega) (by rw[Int.toNat_natCast];omega) (fun k _=>bt_flip (m ^^^ 2 ^ (254 - d)) (254 - d - 1) (by rw[pW_at (by omega),xb1]) k)) (A1 (wi64 (by omega)) (A1 (wi64 (by omega)) (A1 (by(try simp only[Int.toNat_natCast,wA_size]);omega) (A1 ⟨(wA_get (by omega) (by omega)),rfl⟩ (A1 (by(try simp only[Int.toNat_natCast,wA_size]);omega) (A1 (pW_put (by omega) (by rw[Int.toNat_natCast];omega) (fun k _=>bt_flip ((m ^^^ 2 ^ (254 - d)) ^^^ 2 ^ (254 - d - 1)) (254 - d - 2) (by rw[pW_at (by omega),xb1]) k)) (A1 (wi64 (by omega)) (A1 (wi64 (by omega)) (A1 (by(try simp only[Int.toNat_natCast,wA_size]);omega) (A1 ⟨(wA_get (by omega) (by omega)),rfl⟩ (A1 (by(try simp only[Int.toNat_natCast,wA_size]);omega) (A1 (pW_put (by omega) (by rw[Int.toNat_natCast];omega) (fun k _=>bt_flip (((m ^^^ 2 ^ (254 - d)) ^^^ 2 ^ (254 - d - 1)) ^^^ 2 ^ (254 - d - 2)) (254 - d - 7) (by rw[pW_at (by omega),xb1]) k)) (A1 (wi64 (by omega)) (A1 (wi64 (by omega)) (A1 (by(try simp only[Int.toNat_natCast,wA_size]);omega) (A1 ⟨(wA_get (by omega) (by omega)),rfl⟩ (A1 (by(try simp only[Int.toNat_natCast,wA_size]);omega) (A1 (pW_put (by omega) (by rw[Int.toNat_natCast];omega) (fun k _=>bt_flip ((((m ^^^ 2 ^ (254 - d)) ^^^ 2 ^ (254 - d - 1)) ^^^ 2 ^ (254 - d - 2)) ^^^ 2 ^ (254 - d - 7)) (254 - d - 128) (by rw[pW_at (by omega),xb1]) k)) (A1 (wi64 (by omega)) A0))))))))))))))))))))))))))))))) ⟨⟨by rw[rd,← hm,tb_of hb0,cond_true];exact rc_chain m d,by omega⟩,rfl⟩
theorem dTm0n (hlt:d<127):dTmA_R [1,1,1,0,1,0,0] (dTmI k_10) .normal (fun z_=>∃(m2:Nat) (k_10:dTmI_c k_4 (d+1) m2),z_=dTmI k_10):=by
  by_cases hb0:m.testBit (254 - d)=false
  · exact(dTm0l hlt hb0).mono fun _ ⟨k_10,e_⟩=>⟨_,k_10,e_⟩
  · exact(dTm0m hlt hb0).mono fun _ ⟨k_10,e_⟩=>⟨_,k_10,e_⟩
structure dTmJ_c (a b d m:Nat):Prop where
  hm:m=rd (cm a b 128) 127
variable {k_11:dTmJ_c a b d m}
abbrev dTmJ (_:dTmJ_c a b d m):FS:=⟨false,88,[(2,.pointer (some ⟨0,0,none⟩)),(3,.pointer (some ⟨1,0,none⟩)),(4,.pointer (some ⟨2,0,none⟩)),(5,.pointer (some ⟨3,0,none⟩))],[((wA .i64 128 (pL a)),(47,(0,0))),((wA .i64 128 (pL b)),(47,(0,0))),((wA .i64 128 []),(47,(0,0))),((wA .i64 255 (pW m)),(63,(0,0)))]⟩
theorem dTm0o (hge:¬ d<127):dTmA_R [1,1,1,0,1,0,0] (dTmI k_10) (.exit 4) (fun z_=>∃(k_11:dTmJ_c a b d m),z_=dTmJ k_11):=by
  have⟨ha,hb⟩:=id k_4
  have⟨hm,hd⟩:=id k_10
  exact rn_ev (yty.en tabV0) dTmA_h mixed _ none [some (.bool false)] [(3,(decide (128≤((254 - d:Nat):Int)))=false)] 0 (fun j M=>by kernel_rfl) (A1 (decide_eq_false (by omega)) A0) ⟨⟨by rw[hm,show d=127 by omega]⟩,rfl⟩
theorem dTm0p:dTmA_R [1,1,1,0,1] (dTmI k_10) .normal (fun z_=>∃(d m:Nat) (k_11:dTmJ_c a b d m),z_=dTmJ k_11):=by
  refine rn_loop (k:=4) (w:= [1,1,1,0,1]) (by kernel_rfl) (fun n_ z_=>∃(d m:Nat) (k_10:dTmI_c k_4 d m),n_=127 - d∧z_=dTmI k_10) _ ⟨_,_,k_10,rfl,rfl⟩ ?_
  rintro n_ _ ⟨d,m,k_10,hn_,rfl⟩
  have⟨ha,hb⟩:=k_4
  have⟨hm,hd⟩:=k_10
  by_cases hlt:d<127
  · exact(dTm0n hlt).x fun _ ⟨m2_,k_10,e_⟩=> .inl ⟨rfl,127 - (d+1),by omega,⟨_,_,k_10,rfl,e_⟩⟩
  · exact(dTm0o hlt).x fun _ ⟨k_11,e_⟩=> .inr ⟨rfl,⟨d,m,k_11,e_⟩⟩
theorem dTm0q:dTmA_R [1,1,1,0] (dTmH k_9) .normal (fun z_=>∃(d1 m1:Nat) (k_11:dTmJ_c a b d1 m1),z_=dTmJ k_11):=by
  refine rn_seq (w:= [1,1,1,0]) (by kernel_rfl) dTm0k ?_
  rintro _ ⟨k_10,rfl⟩
  exact dTm0p
abbrev dTmK (_:dTmJ_c a b d m):FS:=⟨false,88,[(4,.pointer (some ⟨2,0,none⟩)),(5,.pointer (some ⟨3,0,none⟩)),(9,.pointer (some ⟨4,0,none⟩))],[((wA .i64 128 (pL a)),(47,(0,0))),((wA .i64 128 (pL b)),(47,(0,0))),((wA .i64 128 []),(47,(0,0))),((wA .i64 255 (pW m)),(63,(0,0))),((wA .i64 128 []),(47,(0,0)))]⟩
theorem dTm0r:dTmA_R [1,1,1,1,0] (dTmJ k_11) .normal (fun z_=>z_=dTmK k_11):=by
  exact rn_ev (yty.en tabV0) dTmA_h mixed _ none [] [] 0 (fun j M=>by kernel_rfl) A0 rfl
structure dTmL_c (_:dTmJ_c a b d m) (i:Nat):Prop where
  hi:i≤128
variable {k_12:dTmL_c k_11 i}
abbrev dTmL (_:dTmL_c k_11 i):FS:=⟨false,88,[(4,.pointer (some ⟨2,0,none⟩)),(5,.pointer (some ⟨3,0,none⟩)),(9,.pointer (some ⟨4,0,none⟩)),(10,.int .i64 ((i:Nat):Int))],[((wA .i64 128 (pL a)),(47,(0,0))),((wA .i64 128 (pL b)),(47,(0,0))),((wA .i64 128 []),(47,(0,0))),((wA .i64 255 (pW m)),(63,(0,0))),((wA .i64 128 (pL (zm m i))),(47,(0,0)))]⟩
theorem dTm0s:dTmA_R [1,1,1,1,1,0,0] (dTmK k_11) .normal (fun z_=>∃(k_12:dTmL_c k_11 0),z_=dTmL k_12):=by
  have⟨hm⟩:=id k_11
  exact rn_ev (yty.en tabV0) dTmA_h mixed _ none [] [] 1 (fun j M=>by kernel_rfl) A0 ⟨⟨by omega⟩,rfl⟩
theorem dTm0t (hlt:i<128):dTmA_R [1,1,1,1,1,0,1,0,0] (dTmL k_12) .normal (fun z_=>∃(k_12:dTmL_c k_11 (i+1)),z_=dTmL k_12):=by
  have⟨hm⟩:=id k_11
  have⟨hi⟩:=id k_12
  exact rn_ev (yty.en tabV0) dTmA_h mixed _ none [some (.bool true),some (.int .i64 ((pW m).getD i 0)),some (.agg (wA .i64 128 (pL (zm m (i+1))))),some (.int .i64 ((i+1:Nat):Int))] [(3,(decide (((i:Nat):Int)<128))=true),(4,(0≤((i:Nat):Int)∧((i:Nat):Int)<((255:Nat):Int))),(0,(((wA .i64 255 (pW m))[(0+Int.toNat ((i:Nat):Int)*1)]? =some (.int .i64 ((pW m).getD i 0)))∧((pW m).getD i 0)=((pW m).getD i 0))),(0,(0≤((i:Nat):Int)∧((i:Nat):Int)<((128:Nat):Int))),(0,((0+Int.toNat ((i:Nat):Int)*1)<(wA .i64 128 (pL (zm m i))).size∧(wA .i64 128 (pL (zm m i))).setIfInBounds (0+Int.toNat ((i:Nat):Int)*1) (.int .i64 ((pW m).getD i 0))=(wA .i64 128 (pL (zm m (i+1)))))),(3,(IntKind.i64.wrap (((i:Nat):Int)+1))=((i+1:Nat):Int))] 1 (fun j M=>by kernel_rfl) (A1 (decide_eq_true (by omega)) (A1 (by(try simp only[Int.toNat_natCast,wA_size]);omega) (A1 ⟨(wA_get (by omega) (by omega)),rfl⟩ (A1 (by(try simp only[Int.toNat_natCast,wA_size]);omega) (A1 (pL_put hlt (by rw[Int.toNat_natCast];omega) (fun k _=>bt_zm _ _ (pW_at (by omega)) k)) (A1 (wi64 (by omega)) A0)))))) ⟨⟨by omega⟩,rfl⟩
structure dTmM_c (_:dTmJ_c a b d m) (i:Nat):Prop where
variable {k_13:dTmM_c k_11 i}
abbrev dTmM (_:dTmM_c k_11 i):FS:=⟨false,88,[(4,.pointer (some ⟨2,0,none⟩)),(5,.pointer (some ⟨3,0,none⟩)),(9,.pointer (some ⟨4,0,none⟩))],[((wA .i64 128 (pL a)),(47,(0,0))),((wA .i64 128 (pL b)),(47,(0,0))),((wA .i64 128 []),(47,(0,0))),((wA .i64 255 (pW m)),(63,(0,0))),((wA .i64 128 (pL m)),(47,(0,0)))]⟩
theorem dTm0u (hge:¬ i<128):dTmA_R [1,1,1,1,1,0,1,0,0] (dTmL k_12) (.exit 6) (fun z_=>∃(k_13:dTmM_c k_11 i),z_=dTmM k_13):=by
  have⟨hm⟩:=id k_11
  have⟨hi⟩:=id k_12
  exact rn_ev (yty.en tabV0) dTmA_h mixed (⟨false,88,[(4,.pointer (some ⟨2,0,none⟩)),(5,.pointer (some ⟨3,0,none⟩)),(9,.pointer (some ⟨4,0,none⟩))],[((wA .i64 128 (pL a)),(47,(0,0))),((wA .i64 128 (pL b)),(47,(0,0))),((wA .i64 128 []),(47,(0,0))),((wA .i64 255 (pW m)),(63,(0,0))),((wA .i64 128 (pL (zm m i))),(47,(0,0)))]⟩) none [some (.bool false)] [(3,(decide (((i:Nat):Int)<128))=false)] 0 (fun j M=>by kernel_rfl) (A1 (decide_eq_false (by omega)) A0) ⟨⟨⟩,(by
    delta dTmM
    rw[show i=128 by omega,zm_eq,pL_mod]
    try kernel_rfl)⟩
theorem dTm0v:dTmA_R [1,1,1,1,1,0,1] (dTmL k_12) .normal (fun z_=>∃(i:Nat) (k_13:dTmM_c k_11 i),z_=dTmM k_13):=by
  refine rn_loop (k:=6) (w:= [1,1,1,1,1,0,1]) (by kernel_rfl) (fun n_ z_=>∃(i:Nat) (k_12:dTmL_c k_11 i),n_=128 - i∧z_=dTmL k_12) _ ⟨_,k_12,rfl,rfl⟩ ?_
  rintro n_ _ ⟨i,k_12,hn_,rfl⟩
  have⟨hm⟩:=k_11
  have⟨hi⟩:=k_12
  by_cases hlt:i<128
  · exact(dTm0t hlt).x fun _ ⟨k_12,e_⟩=> .inl ⟨rfl,128 - (i+1),by omega,⟨_,k_12,rfl,e_⟩⟩
  · exact(dTm0u hlt).x fun _ ⟨k_13,e_⟩=> .inr ⟨rfl,⟨i,k_13,e_⟩⟩
theorem dTm0w:dTmA_R [1,1,1,1,1,0] (dTmK k_11) .normal (fun z_=>∃(i1:Nat) (k_13:dTmM_c k_11 i1),z_=dTmM k_13):=by
  refine rn_seq (w:= [1,1,1,1,1,0]) (by kernel_rfl) dTm0s ?_
  rintro _ ⟨k_12,rfl⟩
  exact dTm0v
abbrev dTmN (_:dTmM_c k_11 i):FS:=⟨false,88,[(4,.pointer (some ⟨2,0,none⟩))],[((wA .i64 128 (pL a)),(47,(0,0))),((wA .i64 128 (pL b)),(47,(0,0))),((wA .i64 128 (pL m)),(47,(0,0))),((wA .i64 255 (pW m)),(63,(0,0))),((wA .i64 128 (pL m)),(47,(0,0)))]⟩
theorem dTm0x:dTmA_R [1,1,1,1,1,1] (dTmM k_13) .ret (fun z_=>z_=dTmN k_13):=by
  exact rn_ev (yty.en tabV0) dTmA_h mixed _ none [] [(2,((wA .i64 128 (pL m)).all (fun v=>v.oneCell')=true))] 0 (fun j M=>by kernel_rfl) (A1 (wA_one _ _ _) A0) rfl
theorem dTmu':dTmA_R [] (dTmA k_4) .ret (fun z_=>∃(i12 m12 d13 m13 i15:Nat) (k_11:dTmJ_c a b d13 m13) (k_13:dTmM_c k_11 i15),z_=dTmN k_13):=by
  refine rn_seq (w:= []) (by kernel_rfl) dTm0 ?_
  rintro _ rfl
  refine rn_seq (w:= [1]) (by kernel_rfl) dTm1 ?_
  rintro _ rfl
  refine rn_seq (w:= [1,1]) (by kernel_rfl) dTm0j ?_
  rintro _ ⟨i12,m12,k_9,rfl⟩
  refine rn_seq (w:= [1,1,1]) (by kernel_rfl) dTm0q ?_
  rintro _ ⟨d13,m13,k_11,rfl⟩
  refine rn_seq (w:= [1,1,1,1]) (by kernel_rfl) dTm0r ?_
  rintro _ rfl
  refine rn_seq (w:= [1,1,1,1,1]) (by kernel_rfl) dTm0w ?_
  rintro _ ⟨i15,k_13,rfl⟩
  exact(dTm0x).mono fun _ e_=>⟨i12,m12,d13,m13,i15,k_11,k_13,e_⟩
abbrev dTmA_s (a b:Nat) (j:Nat→Value):List Value:=([.agg (wA .i64 128 (pL a)),.agg (wA .i64 128 (pL b))] ++ (JU 86))
abbrev dTmA_m (a b:Nat):List Mb:= []
abbrev dTmN_s (a b:Nat) (d m:Nat) (i:Nat) (j:Nat→Value):List Value:=(J j 0 4 ++ ([.pointer (some ⟨2,0,none⟩)] ++ (J j 5 83)))
abbrev dTmN_m (a b:Nat) (d m:Nat) (i:Nat):List Mb:= [((wA .i64 128 (pL a)),(47,(0,0))),((wA .i64 128 (pL b)),(47,(0,0))),((wA .i64 128 (pL m)),(47,(0,0))),((wA .i64 255 (pW m)),(63,(0,0))),((wA .i64 128 (pL m)),(47,(0,0)))]
theorem dTmu (a b:Nat) (j:Nat→Value) (ha:a<2 ^ 128) (hb:b<2 ^ 128)  {c0:Prop} {ch0:List (Option Value)}:Runs Try.prog (cAt [] (bdy Try.f28)) ⟨dTmA_s a b j,dTmA_m a b,c0,ch0⟩ (fun e s=>e= .ret∧∃(i12:Nat) (m12:Nat) (d13:Nat) (m13:Nat) (i15:Nat) (j:Nat→Value) (c:Prop) (ch:List (Option Value)),(m13=rd (cm a b 128) 127)∧s=⟨dTmN_s a b d13 m13 i15 j,dTmN_m a b d13 m13 i15,c,ch⟩) 0:=by
  refine(Rn.old (dTmu' (k_4:=(⟨ha,hb⟩:dTmA_c a b))) j (by kernel_rfl)).mono ?_
  rintro e s ⟨rfl,_,⟨i12,m12,d13,m13,i15,k_11,k_13,rfl⟩,j,c,ch,rfl⟩
  have⟨x_hm⟩:=k_11
  exact⟨rfl,i12,m12,d13,m13,i15,j,c,ch,x_hm,by kernel_rfl⟩
theorem dTm_c (a b:Nat) (ha:a<2 ^ 128) (hb:b<2 ^ 128):Pure Try.prog 28 #[.agg (wA .i64 128 (pL a)),.agg (wA .i64 128 (pL b))] (.agg (wA .i64 128 (pL (tmN a b)))):=by
  refine pure_runs (E:=(yty.en tabV0)) Try.func28 (c:=bdy Try.f28) (by kernel_rfl) (args:= [.agg (wA .i64 128 (pL a)),.agg (wA .i64 128 (pL b))]) (by kernel_rfl) (K:=fun e s=>e= .ret∧resS (yty.en tabV0) s Try.f28.results.toList=some [.agg (wA .i64 128 (pL (tmN a b)))]) ?_ (fun e s h=>⟨h.1,_,h.2,rfl⟩)
  refine(dTmu a b (fun _=>undef) ha hb).mono ?_
  rintro e s ⟨rfl,i,m,d,m2,i2,j,c,ch,hm,rfl⟩
  rw[show pL (tmN a b)=pL m2 from by rw[hm];exact pL_mod]
  exact⟨rfl,by kernel_rfl⟩
def dByA_h (i:Nat):Hn:=if i=5 then⟨13,[],[],[],[]⟩ else⟨0,[],[],[],[]⟩
abbrev dByA_R (w:List Nat) (S:FS) (e:Exit) (K:FS→Prop):Prop:=Rn Try.prog (cAt w (bdy Try.f29)) S e K 0
structure dByA_c (n:Nat):Prop where
  hn:n<2 ^ 128
variable {n:Nat} {k_14:dByA_c n}
abbrev dByA (_:dByA_c n):FS:=⟨true,23,[(0,.agg (wA .i64 128 (pL n)))],[]⟩
abbrev dByB (_:dByA_c n):FS:=⟨false,23,[(1,.pointer (some ⟨0,0,none⟩)),(2,.pointer (some ⟨1,0,none⟩))],[((wA .i64 128 (pL n)),(47,(0,0))),((wA .u8 16 []),(22,(0,0)))]⟩
theorem dBy0:dByA_R [0] (dByA k_14) .normal (fun z_=>z_=dByB k_14):=by
  exact rn_ev (yty.en tabV0) dByA_h mixed _ none [] [] 0 (fun j M=>by kernel_rfl) A0 rfl
abbrev dByC (_:dByA_c n):FS:=⟨false,23,[(1,.pointer (some ⟨0,0,none⟩)),(2,.pointer (some ⟨1,0,none⟩)),(3,.pointer (some ⟨2,0,none⟩))],[((wA .i64 128 (pL n)),(47,(0,0))),((wA .u8 16 []),(22,(0,0))),((wA .u8 16 []),(22,(0,0)))]⟩
theorem dBy1:dByA_R [1,0] (dByB k_14) .normal (fun z_=>z_=dByC k_14):=by
  exact rn_ev (yty.en tabV0) dByA_h mixed _ none [] [] 0 (fun j M=>by kernel_rfl) A0 rfl
structure dByD_c (_:dByA_c n) (d:Nat):Prop where
  hd:d≤128
variable {k_15:dByD_c k_14 d}
abbrev dByD (_:dByD_c k_14 d):FS:=⟨false,23,[(1,.pointer (some ⟨0,0,none⟩)),(2,.pointer (some ⟨1,0,none⟩)),(3,.pointer (some ⟨2,0,none⟩)),(4,.int .i64 (127 - ((d:Nat):Int)))],[((wA .i64 128 (pL n)),(47,(0,0))),((wA .u8 16 []),(22,(0,0))),((wA .u8 16 (bBd n d)),(22,(0,0)))]⟩
theorem dBy2:dByA_R [1,1,0,0] (dByC k_14) .normal (fun z_=>∃(k_15:dByD_c k_14 0),z_=dByD k_15):=by
  have⟨hn⟩:=id k_14
  exact rn_ev (yty.en tabV0) dByA_h mixed _ none [] [] 1 (fun j M=>by kernel_rfl) A0 ⟨⟨by omega⟩,rfl⟩
theorem dBy3 (hlt:d<128):dByA_R [1,1,0,1,0,0] (dByD k_15) .normal (fun z_=>∃(k_15:dByD_c k_14 (d+1)),z_=dByD k_15):=by
  have⟨hn⟩:=id k_14
  have⟨hd⟩:=id k_15
  exact rn_ev (yty.en tabV0) dByA_h mixed _ none [some (.bool true),some (.int .i64 (((127 - d) / 8:Nat):Int)),some (.int .i64 (((127 - d) / 8:Nat):Int)),some (.int .u8 ((bBd n d).getD ((127 - d) / 8) 0)),none,some (.int .i64 (bti n (127 - d))),none,none,some (.agg (wA .u8 16 (bBd n (d+1)))),some (.int .i64 (127 - ((d+1:Nat):Int)))] [(3,(decide (0≤(127 - ((d:Nat):Int))))=true),(2,(((8:Int)≠0)∧(IntKind.i64.wrap (Int.tdiv (127 - ((d:Nat):Int)) 8))=(((127 - d) / 8:Nat):Int))),(2,(((8:Int)≠0)∧(IntKind.i64.wrap (Int.tdiv (127 - ((d:Nat):Int)) 8))=(((127 - d) / 8:Nat):Int))),(0,(0≤(((127 - d) / 8:Nat):Int)∧(((127 - d) / 8:Nat):Int)<((16:Nat):Int))),(0,(((wA .u8 16 (bBd n d))[(0+Int.toNat (((127 - d) / 8:Nat):Int)*1)]? =some (.int .u8 ((bBd n d).getD ((127 - d) / 8) 0)))∧((bBd n d).getD ((127 - d) / 8) 0)=((bBd n d).getD ((127 - d) / 8) 0))),(4,(0≤(127 - ((d:Nat):Int))∧(127 - ((d:Nat):Int))<((128:Nat):Int))),(0,(((wA .i64 128 (pL n))[(0+Int.toNat (127 - ((d:Nat):Int))*1)]? =some (.int .i64 (bti n (127 - d))))∧(bti n (127 - d))=(bti n (127 - d)))),(4,(0≤(((127 - d) / 8:Nat):Int)∧(((127 - d) / 8:Nat):Int)<((16:Nat):Int))),(0,((0+Int.toNat (((127 - d) / 8:Nat):Int)*1)<(wA .u8 16 (bBd n d)).size∧(wA .u8 16 (bBd n d)).setIfInBounds (0+Int.toNat (((127 - d) / 8:Nat):Int)*1) (.int .u8 (IntKind.u8.wrap ((IntKind.u8.wrap (2*((bBd n d).getD ((127 - d) / 8) 0)))+(IntKind.u8.wrap (bti n (127 - d))))))=(wA .u8 16 (bBd n (d+1))))),(3,(IntKind.i64.wrap ((127 - ((d:Nat):Int)) - 1))=(127 - ((d+1:Nat):Int)))] 1 (fun j M=>by kernel_rfl) (A1 (decide_eq_true (by omega)) (A1 ⟨(by decide),(by rw[show(127 - ((d:Nat):Int))=((127 - d:Nat):Int) by omega,show(8:Int)=((8:Nat):Int) from rfl,tdivN_i64 _ _ (by omega)])⟩ (A1 ⟨(by decide),(by rw[show(127 - ((d:Nat):Int))=((127 - d:Nat):Int) by omega,show(8:Int)=((8:Nat):Int) from rfl,tdivN_i64 _ _ (by omega)])⟩ (A1 (by(try simp only[Int.toNat_natCast,wA_size]);omega) (A1 ⟨(wA_get (by omega) (by omega)),rfl⟩ (A1 (by(try simp only[Int.toNat_natCast,wA_size]);omega) (A1 ⟨(by rw[show 0+Int.toNat (127 - ((d:Nat):Int))*1=127 - d by omega,wA_at (by omega),pL_at (by omega)]),rfl⟩ (A1 (by(try simp only[Int.toNat_natCast,wA_size]);omega) (A1 (bB_put3 hn hlt (by rw[Int.toNat_natCast];omega)) (A1 (wi64 (by omega)) A0)))))))))) ⟨⟨by omega⟩,rfl⟩
structure dByE_c (_:dByA_c n) (d:Nat):Prop where
variable {k_16:dByE_c k_14 d}
abbrev dByE (_:dByE_c k_14 d):FS:=⟨false,23,[(1,.pointer (some ⟨0,0,none⟩)),(2,.pointer (some ⟨1,0,none⟩)),(3,.pointer (some ⟨2,0,none⟩))],[((wA .i64 128 (pL n)),(47,(0,0))),((wA .u8 16 []),(22,(0,0))),((wA .u8 16 (eL n)),(22,(0,0)))]⟩
theorem dBy4 (hge:¬ d<128):dByA_R [1,1,0,1,0,0] (dByD k_15) (.exit 0) (fun z_=>∃(k_16:dByE_c k_14 d),z_=dByE k_16):=by
  have⟨hn⟩:=id k_14
  have⟨hd⟩:=id k_15
  exact rn_ev (yty.en tabV0) dByA_h mixed (⟨false,23,[(1,.pointer (some ⟨0,0,none⟩)),(2,.pointer (some ⟨1,0,none⟩)),(3,.pointer (some ⟨2,0,none⟩))],[((wA .i64 128 (pL n)),(47,(0,0))),((wA .u8 16 []),(22,(0,0))),((wA .u8 16 (bBd n d)),(22,(0,0)))]⟩) none [some (.bool false)] [(3,(decide (0≤(127 - ((d:Nat):Int))))=false)] 0 (fun j M=>by kernel_rfl) (A1 (decide_eq_false (by omega)) A0) ⟨⟨⟩,(by
    delta dByE
    rw[(bBd_eq hn d).1,show 128 - d=0 by omega,bB_end]
    try kernel_rfl)⟩
theorem dBy5:dByA_R [1,1,0,1] (dByD k_15) .normal (fun z_=>∃(d:Nat) (k_16:dByE_c k_14 d),z_=dByE k_16):=by
  refine rn_loop (k:=0) (w:= [1,1,0,1]) (by kernel_rfl) (fun n_ z_=>∃(d:Nat) (k_15:dByD_c k_14 d),n_=128 - d∧z_=dByD k_15) _ ⟨_,k_15,rfl,rfl⟩ ?_
  rintro n_ _ ⟨d,k_15,hn_,rfl⟩
  have⟨hn⟩:=k_14
  have⟨hd⟩:=k_15
  by_cases hlt:d<128
  · exact(dBy3 hlt).x fun _ ⟨k_15,e_⟩=> .inl ⟨rfl,128 - (d+1),by omega,⟨_,k_15,rfl,e_⟩⟩
  · exact(dBy4 hlt).x fun _ ⟨k_16,e_⟩=> .inr ⟨rfl,⟨d,k_16,e_⟩⟩
theorem dBy6:dByA_R [1,1,0] (dByC k_14) .normal (fun z_=>∃(d1:Nat) (k_16:dByE_c k_14 d1),z_=dByE k_16):=by
  refine rn_seq (w:= [1,1,0]) (by kernel_rfl) dBy2 ?_
  rintro _ ⟨k_15,rfl⟩
  exact dBy5
abbrev dByF (_:dByE_c k_14 d):FS:=⟨false,23,[(2,.pointer (some ⟨1,0,none⟩))],[((wA .i64 128 (pL n)),(47,(0,0))),((wA .u8 16 (eL n)),(22,(0,0))),((wA .u8 16 (eL n)),(22,(0,0)))]⟩
theorem dBy7:dByA_R [1,1,1] (dByE k_16) .ret (fun z_=>z_=dByF k_16):=by
  exact rn_ev (yty.en tabV0) dByA_h mixed _ none [] [(2,((wA .u8 16 (eL n)).all (fun v=>v.oneCell')=true))] 0 (fun j M=>by kernel_rfl) (A1 (wA_one _ _ _) A0) rfl
theorem dByu':dByA_R [] (dByA k_14) .ret (fun z_=>∃(d12:Nat) (k_16:dByE_c k_14 d12),z_=dByF k_16):=by
  refine rn_seq (w:= []) (by kernel_rfl) dBy0 ?_
  rintro _ rfl
  refine rn_seq (w:= [1]) (by kernel_rfl) dBy1 ?_
  rintro _ rfl
  refine rn_seq (w:= [1,1]) (by kernel_rfl) dBy6 ?_
  rintro _ ⟨d12,k_16,rfl⟩
  exact(dBy7).mono fun _ e_=>⟨d12,k_16,e_⟩
abbrev dByA_s (n:Nat) (j:Nat→Value):List Value:=([.agg (wA .i64 128 (pL n))] ++ (JU 22))
abbrev dByA_m (n:Nat):List Mb:= []
abbrev dByF_s (n:Nat) (d:Nat) (j:Nat→Value):List Value:=([j 0,j 1,.pointer (some ⟨1,0,none⟩)] ++ (J j 3 20))
abbrev dByF_m (n:Nat) (d:Nat):List Mb:= [((wA .i64 128 (pL n)),(47,(0,0))),((wA .u8 16 (eL n)),(22,(0,0))),((wA .u8 16 (eL n)),(22,(0,0)))]
theorem dByu (n:Nat) (j:Nat→Value) (hn:n<2 ^ 128)  {c0:Prop} {ch0:List (Option Value)}:Runs Try.prog (cAt [] (bdy Try.f29)) ⟨dByA_s n j,dByA_m n,c0,ch0⟩ (fun e s=>e= .ret∧∃(d12:Nat) (j:Nat→Value) (c:Prop) (ch:List (Option Value)),s=⟨dByF_s n d12 j,dByF_m n d12,c,ch⟩) 0:=by
  refine(Rn.old (dByu' (k_14:=(⟨hn⟩:dByA_c n))) j (by kernel_rfl)).mono ?_
  rintro e s ⟨rfl,_,⟨d12,k_16,rfl⟩,j,c,ch,rfl⟩
  exact⟨rfl,d12,j,c,ch,by kernel_rfl⟩
theorem dBy_c (n:Nat) (hn:n<2 ^ 128):Pure Try.prog 29 #[.agg (wA .i64 128 (pL n))] (.agg (wA .u8 16 (eL n))):=by
  refine pure_runs (E:=(yty.en tabV0)) Try.func29 (c:=bdy Try.f29) (by kernel_rfl) (args:= [.agg (wA .i64 128 (pL n))]) (by kernel_rfl) (K:=fun e s=>e= .ret∧resS (yty.en tabV0) s Try.f29.results.toList=some [.agg (wA .u8 16 (eL n))]) ?_ (fun e s h=>⟨h.1,_,h.2,rfl⟩)
  refine(dByu n (fun _=>undef) hn).mono ?_
  rintro e s ⟨rfl,d,j,c,ch,rfl⟩
  exact⟨rfl,by kernel_rfl⟩
theorem nL_w (L:List Int):nL (dL8 (wA .u8 16 L))=nL L:=nL_of fun i hi=>by rw[dL8_wA,if_pos hi]
theorem pq {n:Nat} (h:n<2 ^ 128):wA .i64 128 (pL n)=wA .i64 128 (pL (dP (wA .i64 128 (pL n))))∧dP (wA .i64 128 (pL n))<2 ^ 128:=by
  rw[dP_pL h]
  exact⟨rfl,h⟩
def dpo:Entry Try.prog:=entL Try.func27 (by kernel_rfl) (by kernel_rfl) 16 (fun L=> .agg (wA .i64 128 (pL (nL L)))) (fun L h=>dPo_c L h)
def dtm : Entry Try.prog where
  f:=28
  g:=fun _ xs=>match xs with| [.agg a,.agg b]=>some (.agg (wA .i64 128 (pL (tmN (dP a) (dP b)))),((a=wA .i64 128 (pL (dP a))∧dP a<2 ^ 128)∧(b=wA .i64 128 (pL (dP b))∧dP b<2 ^ 128)))|_=>none
  ok := fun _ xs u c e hc w β _ _ => by
    split at e
    · simp only [Option.some.injEq, Prod.mk.injEq] at e
      obtain⟨rfl,rfl⟩:=e
      have:=dTm_c _ _ hc.1.2 hc.2.2 w
      rw[← hc.1.1,← hc.2.1] at this
      exact this
    · cases e
  call:=call_of Try.func28 (by kernel_rfl) (by kernel_rfl)
def dby : Entry Try.prog where
  f:=29
  g:=fun _ xs=>match xs with| [.agg a]=>some (.agg (wA .u8 16 (eL (dP a))),(a=wA .i64 128 (pL (dP a))∧dP a<2 ^ 128))|_=>none
  ok := fun _ xs u c e hc w β _ _ => by
    split at e
    · simp only [Option.some.injEq, Prod.mk.injEq] at e
      obtain⟨rfl,rfl⟩:=e
      have:=dBy_c _ hc.2 w
      rw[← hc.1] at this
      exact this
    · cases e
  call:=call_of Try.func29 (by kernel_rfl) (by kernel_rfl)
def tabY1:List (Entry Try.prog):=dpo :: dtm :: dby :: []
def dDoA_h (i:Nat):Hn:=if i=1 then⟨6,[],[],[],[]⟩ else⟨0,[],[],[],[]⟩
abbrev dDoA_R (w:List Nat) (S:FS) (e:Exit) (K:FS→Prop):Prop:=Rn Try.prog (cAt w (bdy Try.f10)) S e K 0
structure dDoA_c (A B:List Int):Prop where
  hA:By A
  hB:By B
variable {A B:List Int} {k_17:dDoA_c A B}
abbrev dDoA (_:dDoA_c A B):FS:=⟨true,52,[(0,.agg (wA .u8 16 A)),(1,.agg (wA .u8 16 B))],[]⟩
abbrev dDoB (_:dDoA_c A B):FS:=⟨false,52,[(2,.pointer (some ⟨0,0,none⟩)),(3,.pointer (some ⟨1,0,none⟩)),(4,.pointer (some ⟨2,0,none⟩))],[((wA .u8 16 A),(22,(0,0))),((wA .u8 16 B),(22,(0,0))),((wA .u8 16 []),(22,(0,0)))]⟩
theorem dDo0:dDoA_R [0] (dDoA k_17) .normal (fun z_=>z_=dDoB k_17):=by
  exact rn_ev (yty.en tabY1) dDoA_h mixed _ none [] [] 0 (fun j M=>by kernel_rfl) A0 rfl
structure dDoC_c (_:dDoA_c A B) (p:Nat):Prop where
  hp:p=(tmN (nL A) (nL B))
  hl:p<2 ^ 128
variable {p:Nat} {k_18:dDoC_c k_17 p}
abbrev dDoC (_:dDoC_c k_17 p):FS:=⟨false,52,[(4,.pointer (some ⟨2,0,none⟩)),(5,.pointer (some ⟨3,0,none⟩))],[((wA .u8 16 A),(22,(0,0))),((wA .u8 16 B),(22,(0,0))),((wA .u8 16 []),(22,(0,0))),((wA .i64 128 (pL p)),(47,(0,0)))]⟩
theorem dDo1:dDoA_R [1,0] (dDoB k_17) .normal (fun z_=>∃(k_18:dDoC_c k_17 (tmN (dP (wA .i64 128 (pL (nL (dL8 (wA .u8 16 A)))))) (dP (wA .i64 128 (pL (nL (dL8 (wA .u8 16 B)))))))),z_=dDoC k_18):=by
  have⟨hA,hB⟩:=id k_17
  exact rn_ev (yty.en tabY1) dDoA_h mixed _ none [] [(2,((wA .u8 16 A)=wA .u8 16 (dL8 (wA .u8 16 A))∧By (dL8 (wA .u8 16 A)))),(2,((wA .u8 16 B)=wA .u8 16 (dL8 (wA .u8 16 B))∧By (dL8 (wA .u8 16 B)))),(0,(((wA .i64 128 (pL (nL (dL8 (wA .u8 16 A)))))=wA .i64 128 (pL (dP (wA .i64 128 (pL (nL (dL8 (wA .u8 16 A)))))))∧dP (wA .i64 128 (pL (nL (dL8 (wA .u8 16 A)))))<2 ^ 128)∧((wA .i64 128 (pL (nL (dL8 (wA .u8 16 B)))))=wA .i64 128 (pL (dP (wA .i64 128 (pL (nL (dL8 (wA .u8 16 B)))))))∧dP (wA .i64 128 (pL (nL (dL8 (wA .u8 16 B)))))<2 ^ 128))),(0,((wA .i64 128 (pL (tmN (dP (wA .i64 128 (pL (nL (dL8 (wA .u8 16 A)))))) (dP (wA .i64 128 (pL (nL (dL8 (wA .u8 16 B))))))))).all (fun v=>v.oneCell')=true))] 0 (fun j M=>by kernel_rfl) (A1 (dq hA) (A1 (dq hB) (A1 ⟨pq (nL_lt (by_dL8 hA)),pq (nL_lt (by_dL8 hB))⟩ (A1 (wA_one _ _ _) A0)))) ⟨⟨by rw[dP_pL (nL_lt (by_dL8 hA)),dP_pL (nL_lt (by_dL8 hB)),nL_w,nL_w],tmN_lt _ _⟩,rfl⟩
structure dDoD_c (_:dDoA_c A B) (i p:Nat):Prop where
  hp:p=fI i (tmN (nL A) (nL B))
  hl:p<2 ^ 128
  hi:i≤128
variable {k_19:dDoD_c k_17 i p}
abbrev dDoD (_:dDoD_c k_17 i p):FS:=⟨false,52,[(4,.pointer (some ⟨2,0,none⟩)),(5,.pointer (some ⟨3,0,none⟩)),(6,.int .i64 ((i:Nat):Int))],[((wA .u8 16 A),(22,(0,0))),((wA .u8 16 B),(22,(0,0))),((wA .u8 16 []),(22,(0,0))),((wA .i64 128 (pL p)),(47,(0,0)))]⟩
theorem dDo2:dDoA_R [1,1,0,0] (dDoC k_18) .normal (fun z_=>∃(k_19:dDoD_c k_17 0 p),z_=dDoD k_19):=by
  have⟨hA,hB⟩:=id k_17
  have⟨hp,hl⟩:=id k_18
  exact rn_ev (yty.en tabY1) dDoA_h mixed _ none [] [] 1 (fun j M=>by kernel_rfl) A0 ⟨⟨hp,hl,by omega⟩,rfl⟩
structure dDoE_c (_:dDoD_c k_17 i p):Prop where
  hi1:i<128
variable {k_20:dDoE_c k_19}
abbrev dDoE (_:dDoE_c k_19):FS:=⟨false,52,[(4,.pointer (some ⟨2,0,none⟩)),(5,.pointer (some ⟨3,0,none⟩)),(6,.int .i64 ((i:Nat):Int))],[((wA .u8 16 A),(22,(0,0))),((wA .u8 16 B),(22,(0,0))),((wA .u8 16 []),(22,(0,0))),((wA .i64 128 (pL p)),(47,(0,0)))]⟩
theorem dDo3 (hlt:i<128):dDoA_R [1,1,0,1,0,0,0] (dDoD k_19) .normal (fun z_=>∃(k_20:dDoE_c k_19),z_=dDoE k_20):=by
  have⟨hA,hB⟩:=id k_17
  have⟨hp,hl,hi⟩:=id k_19
  exact rn_ev (yty.en tabY1) dDoA_h mixed _ none [some (.bool true)] [(3,(decide (((i:Nat):Int)<128))=true)] 0 (fun j M=>by kernel_rfl) (A1 (decide_eq_true (by omega)) A0) ⟨⟨hlt⟩,rfl⟩
abbrev dDoF (_:dDoE_c k_19):FS:=⟨false,52,[(4,.pointer (some ⟨2,0,none⟩)),(5,.pointer (some ⟨3,0,none⟩)),(6,.int .i64 ((i:Nat):Int)),(7,.int .i64 ((pL p).getD 0 0))],[((wA .u8 16 A),(22,(0,0))),((wA .u8 16 B),(22,(0,0))),((wA .u8 16 []),(22,(0,0))),((wA .i64 128 (pL p)),(47,(0,0)))]⟩
theorem dDo4:dDoA_R [1,1,0,1,0,0,1,0,0,0] (dDoE k_20) .normal (fun z_=>z_=dDoF k_20):=by
  have⟨hA,hB⟩:=id k_17
  have⟨hp,hl,hi⟩:=id k_19
  have⟨hi1⟩:=id k_20
  exact rn_ev (yty.en tabY1) dDoA_h mixed _ none [some (.int .i64 ((pL p).getD 0 0))] [(0,bdN 0 128),(0,(((wA .i64 128 (pL p))[0]? =some (.int .i64 ((pL p).getD 0 0)))∧((pL p).getD 0 0)=((pL p).getD 0 0)))] 1 (fun j M=>by kernel_rfl) (A1 (bdd rfl) (A1 ⟨(wA_get (by omega) (by omega)),rfl⟩ A0)) rfl
abbrev dDoG (_:dDoE_c k_19):FS:=⟨false,52,[(4,.pointer (some ⟨2,0,none⟩)),(5,.pointer (some ⟨3,0,none⟩)),(6,.int .i64 ((i:Nat):Int)),(7,.int .i64 ((pL p).getD 0 0)),(8,.pointer (some ⟨4,0,none⟩))],[((wA .u8 16 A),(22,(0,0))),((wA .u8 16 B),(22,(0,0))),((wA .u8 16 []),(22,(0,0))),((wA .i64 128 (pL p)),(47,(0,0))),((wA .i64 128 []),(47,(0,0)))]⟩
theorem dDo5:dDoA_R [1,1,0,1,0,0,1,0,0,1,0] (dDoF k_20) .normal (fun z_=>z_=dDoG k_20):=by
  exact rn_ev (yty.en tabY1) dDoA_h mixed _ none [] [] 0 (fun j M=>by kernel_rfl) A0 rfl
structure dDoH_c (_:dDoE_c k_19) (k:Nat):Prop where
  hk:k≤127
variable {k_21:dDoH_c k_20 k}
abbrev dDoH (_:dDoH_c k_20 k):FS:=⟨false,52,[(4,.pointer (some ⟨2,0,none⟩)),(5,.pointer (some ⟨3,0,none⟩)),(6,.int .i64 ((i:Nat):Int)),(7,.int .i64 ((pL p).getD 0 0)),(8,.pointer (some ⟨4,0,none⟩)),(9,.int .i64 ((k:Nat):Int))],[((wA .u8 16 A),(22,(0,0))),((wA .u8 16 B),(22,(0,0))),((wA .u8 16 []),(22,(0,0))),((wA .i64 128 (pL p)),(47,(0,0))),((wA .i64 128 (pL (zm (p / 2) k))),(47,(0,0)))]⟩
theorem dDo6:dDoA_R [1,1,0,1,0,0,1,0,0,1,1,0,0] (dDoG k_20) .normal (fun z_=>∃(k_21:dDoH_c k_20 0),z_=dDoH k_21):=by
  have⟨hA,hB⟩:=id k_17
  have⟨hp,hl,hi⟩:=id k_19
  have⟨hi1⟩:=id k_20
  exact rn_ev (yty.en tabY1) dDoA_h mixed _ none [] [] 1 (fun j M=>by kernel_rfl) A0 ⟨⟨by omega⟩,rfl⟩
theorem dDo7 (hlt:k<127):dDoA_R [1,1,0,1,0,0,1,0,0,1,1,0,1,0,0] (dDoH k_21) .normal (fun z_=>∃(k_21:dDoH_c k_20 (k+1)),z_=dDoH k_21):=by
  have⟨hA,hB⟩:=id k_17
  have⟨hp,hl,hi⟩:=id k_19
  have⟨hi1⟩:=id k_20
  have⟨hk⟩:=id k_21
  exact rn_ev (yty.en tabY1) dDoA_h mixed _ none [some (.bool true),some (.int .i64 ((k+1:Nat):Int)),some (.int .i64 ((pL p).getD (k+1) 0)),some (.agg (wA .i64 128 (pL (zm (p / 2) (k+1))))),some (.int .i64 ((k+1:Nat):Int))] [(3,(decide (((k:Nat):Int)<127))=true),(5,(IntKind.i64.wrap (((k:Nat):Int)+1))=((k+1:Nat):Int)),(0,(0≤((k+1:Nat):Int)∧((k+1:Nat):Int)<((128:Nat):Int))),(0,(((wA .i64 128 (pL p))[(0+Int.toNat ((k+1:Nat):Int)*1)]? =some (.int .i64 ((pL p).getD (k+1) 0)))∧((pL p).getD (k+1) 0)=((pL p).getD (k+1) 0))),(0,(0≤((k:Nat):Int)∧((k:Nat):Int)<((128:Nat):Int))),(0,((0+Int.toNat ((k:Nat):Int)*1)<(wA .i64 128 (pL (zm (p / 2) k))).size∧(wA .i64 128 (pL (zm (p / 2) k))).setIfInBounds (0+Int.toNat ((k:Nat):Int)*1) (.int .i64 ((pL p).getD (k+1) 0))=(wA .i64 128 (pL (zm (p / 2) (k+1)))))),(3,(IntKind.i64.wrap (((k:Nat):Int)+1))=((k+1:Nat):Int))] 1 (fun j M=>by kernel_rfl) (A1 (decide_eq_true (by omega)) (A1 (wi64 (by omega)) (A1 (by(try simp only[Int.toNat_natCast,wA_size]);omega) (A1 ⟨(wA_get (by omega) (by omega)),rfl⟩ (A1 (by(try simp only[Int.toNat_natCast,wA_size]);omega) (A1 (pL_put (by omega) (by rw[Int.toNat_natCast];omega) (fun q _=>bt_zm _ _ (by rw[pL_at (by omega),bt_sh]) q)) (A1 (wi64 (by omega)) A0))))))) ⟨⟨by omega⟩,rfl⟩
structure dDoI_c (_:dDoE_c k_19) (k:Nat):Prop where
variable {k_22:dDoI_c k_20 k}
abbrev dDoI (_:dDoI_c k_20 k):FS:=⟨false,52,[(4,.pointer (some ⟨2,0,none⟩)),(5,.pointer (some ⟨3,0,none⟩)),(6,.int .i64 ((i:Nat):Int)),(7,.int .i64 ((pL p).getD 0 0)),(8,.pointer (some ⟨4,0,none⟩))],[((wA .u8 16 A),(22,(0,0))),((wA .u8 16 B),(22,(0,0))),((wA .u8 16 []),(22,(0,0))),((wA .i64 128 (pL p)),(47,(0,0))),((wA .i64 128 (pL (p / 2))),(47,(0,0)))]⟩
theorem dDo8 (hge:¬ k<127):dDoA_R [1,1,0,1,0,0,1,0,0,1,1,0,1,0,0] (dDoH k_21) (.exit 2) (fun z_=>∃(k_22:dDoI_c k_20 k),z_=dDoI k_22):=by
  have⟨hA,hB⟩:=id k_17
  have⟨hp,hl,hi⟩:=id k_19
  have⟨hi1⟩:=id k_20
  have⟨hk⟩:=id k_21
  exact rn_ev (yty.en tabY1) dDoA_h mixed (⟨false,52,[(4,.pointer (some ⟨2,0,none⟩)),(5,.pointer (some ⟨3,0,none⟩)),(6,.int .i64 ((i:Nat):Int)),(7,.int .i64 ((pL p).getD 0 0)),(8,.pointer (some ⟨4,0,none⟩))],[((wA .u8 16 A),(22,(0,0))),((wA .u8 16 B),(22,(0,0))),((wA .u8 16 []),(22,(0,0))),((wA .i64 128 (pL p)),(47,(0,0))),((wA .i64 128 (pL (zm (p / 2) k))),(47,(0,0)))]⟩) none [some (.bool false)] [(3,(decide (((k:Nat):Int)<127))=false)] 0 (fun j M=>by kernel_rfl) (A1 (decide_eq_false (by omega)) A0) ⟨⟨⟩,(by
    delta dDoI
    rw[show k=127 by omega,zm_eq,Nat.mod_eq_of_lt (show p / 2<2 ^ 127 by omega)]
    try kernel_rfl)⟩
theorem dDo9:dDoA_R [1,1,0,1,0,0,1,0,0,1,1,0,1] (dDoH k_21) .normal (fun z_=>∃(k:Nat) (k_22:dDoI_c k_20 k),z_=dDoI k_22):=by
  refine rn_loop (k:=2) (w:= [1,1,0,1,0,0,1,0,0,1,1,0,1]) (by kernel_rfl) (fun n_ z_=>∃(k:Nat) (k_21:dDoH_c k_20 k),n_=127 - k∧z_=dDoH k_21) _ ⟨_,k_21,rfl,rfl⟩ ?_
  rintro n_ _ ⟨k,k_21,hn_,rfl⟩
  have⟨hA,hB⟩:=k_17
  have⟨hp,hl,hi⟩:=k_19
  have⟨hi1⟩:=k_20
  have⟨hk⟩:=k_21
  by_cases hlt:k<127
  · exact(dDo7 hlt).x fun _ ⟨k_21,e_⟩=> .inl ⟨rfl,127 - (k+1),by omega,⟨_,k_21,rfl,e_⟩⟩
  · exact(dDo8 hlt).x fun _ ⟨k_22,e_⟩=> .inr ⟨rfl,⟨k,k_22,e_⟩⟩
theorem dDo0a:dDoA_R [1,1,0,1,0,0,1,0,0,1,1,0] (dDoG k_20) .normal (fun z_=>∃(k1:Nat) (k_22:dDoI_c k_20 k1),z_=dDoI k_22):=by
  refine rn_seq (w:= [1,1,0,1,0,0,1,0,0,1,1,0]) (by kernel_rfl) dDo6 ?_
  rintro _ ⟨k_21,rfl⟩
  exact dDo9
structure dDoJ_c (_:dDoI_c k_20 k) (v:Nat):Prop where
  hv:v=fD p
variable {v:Nat} {k_23:dDoJ_c k_22 v}
abbrev dDoJ (_:dDoJ_c k_22 v):FS:=⟨false,52,[(4,.pointer (some ⟨2,0,none⟩)),(5,.pointer (some ⟨3,0,none⟩)),(6,.int .i64 ((i:Nat):Int)),(7,.int .i64 ((pL p).getD 0 0)),(8,.pointer (some ⟨4,0,none⟩))],[((wA .u8 16 A),(22,(0,0))),((wA .u8 16 B),(22,(0,0))),((wA .u8 16 []),(22,(0,0))),((wA .i64 128 (pL p)),(47,(0,0))),((wA .i64 128 (pL v)),(47,(0,0)))]⟩
theorem dDo0b (hb0:p.testBit 0=true):dDoA_R [1,1,0,1,0,0,1,0,0,1,1,1,0] (dDoI k_22) .normal (fun z_=>∃(k_23:dDoJ_c k_22 (((((p / 2) ^^^ 2 ^ 127) ^^^ 2 ^ 126) ^^^ 2 ^ 125) ^^^ 2 ^ 120)),z_=dDoJ k_23):=by
  have⟨hA,hB⟩:=id k_17
  have⟨hp,hl,hi⟩:=id k_19
  have⟨hi1⟩:=id k_20
  exact rn_ev (yty.en tabY1) dDoA_h mixed _ none [some (.bool true),some (.int .i64 ((pL (p / 2)).getD 127 0)),none,some (.agg (wA .i64 128 (pL ((p / 2) ^^^ 2 ^ 127)))),some (.int .i64 ((pL ((p / 2) ^^^ 2 ^ 127)).getD 126 0)),none,some (.agg (wA .i64 128 (pL (((p / 2) ^^^ 2 ^ 127) ^^^ 2 ^ 126)))),some (.int .i64 ((pL (((p / 2) ^^^ 2 ^ 127) ^^^ 2 ^ 126)).getD 125 0)),none,some (.agg (wA .i64 128 (pL ((((p / 2) ^^^ 2 ^ 127) ^^^ 2 ^ 126) ^^^ 2 ^ 125)))),some (.int .i64 ((pL ((((p / 2) ^^^ 2 ^ 127) ^^^ 2 ^ 126) ^^^ 2 ^ 125)).getD 120 0)),none,some (.agg (wA .i64 128 (pL (((((p / 2) ^^^ 2 ^ 127) ^^^ 2 ^ 126) ^^^ 2 ^ 125) ^^^ 2 ^ 120))))] [(3,(decide (((pL p).getD 0 0)=1))=true),(0,bdN 127 128),(0,(((wA .i64 128 (pL (p / 2)))[127]? =some (.int .i64 ((pL (p / 2)).getD 127 0)))∧((pL (p / 2)).getD 127 0)=((pL (p / 2)).getD 127 0))),(2,bdN 127 128),(0,(127<(wA .i64 128 (pL (p / 2))).size∧(wA .i64 128 (pL (p / 2))).setIfInBounds (127) (.int .i64 (bits .xor .i64 ((pL (p / 2)).getD 127 0) 1))=(wA .i64 128 (pL ((p / 2) ^^^ 2 ^ 127))))),(0,bdN 126 128),(0,(((wA .i64 128 (pL ((p / 2) ^^^ 2 ^ 127)))[126]? =some (.int .i64 ((pL ((p / 2) ^^^ 2 ^ 127)).getD 126 0)))∧((pL ((p / 2) ^^^ 2 ^ 127)).getD 126 0)=((pL ((p / 2) ^^^ 2 ^ 127)).getD 126 0))),(2,bdN 126 128),(0,(126<(wA .i64 128 (pL ((p / 2) ^^^ 2 ^ 127))).size∧(wA .i64 128 (pL ((p / 2) ^^^ 2 ^ 127))).setIfInBounds (126) (.int .i64 (bits .xor .i64 ((pL ((p / 2) ^^^ 2 ^ 127)).getD 126 0) 1))=(wA .i64 128 (pL (((p / 2) ^^^ 2 ^ 127) ^^^ 2 ^ 126))))),(0,bdN 125 128),(0,(((wA .i64 128 (pL (((p / 2) ^^^ 2 ^ 127) ^^^ 2 ^ 126)))[125]? =some (.int .i64 ((pL (((p / 2) ^^^ 2 ^ 127) ^^^ 2 ^ 126)).getD 125 0)))∧((pL (((p / 2) ^^^ 2 ^ 127) ^^^ 2 ^ 126)).getD 125 0)=((pL (((p / 2) ^^^ 2 ^ 127) ^^^ 2 ^ 126)).getD 125 0))),(2,bdN 125 128),(0,(125<(wA .i64 128 (pL (((p / 2) ^^^ 2 ^ 127) ^^^ 2 ^ 126))).size∧(wA .i64 128 (pL (((p / 2) ^^^ 2 ^ 127) ^^^ 2 ^ 126))).setIfInBounds (125) (.int .i64 (bits .xor .i64 ((pL (((p / 2) ^^^ 2 ^ 127) ^^^ 2 ^ 126)).getD 125 0) 1))=(wA .i64 128 (pL ((((p / 2) ^^^ 2 ^ 127) ^^^ 2 ^ 126) ^^^ 2 ^ 125))))),(0,bdN 120 128),(0,(((wA .i64 128 (pL ((((p / 2) ^^^ 2 ^ 127) ^^^ 2 ^ 126) ^^^ 2 ^ 125)))[120]? =some (.int .i64 ((pL ((((p / 2) ^^^ 2 ^ 127) ^^^ 2 ^ 126) ^^^ 2 ^ 125)).getD 120 0)))∧((pL ((((p / 2) ^^^ 2 ^ 127) ^^^ 2 ^ 126) ^^^ 2 ^ 125)).getD 120 0)=((pL ((((p / 2) ^^^ 2 ^ 127) ^^^ 2 ^ 126) ^^^ 2 ^ 125)).getD 120 0))),(2,bdN 120 128),(0,(120<(wA .i64 128 (pL ((((p / 2) ^^^ 2 ^ 127) ^^^ 2 ^ 126) ^^^ 2 ^ 125))).size∧(wA .i64 128 (pL ((((p / 2) ^^^ 2 ^ 127) ^^^ 2 ^ 126) ^^^ 2 ^ 125))).setIfInBounds (120) (.int .i64 (bits .xor .i64 ((pL ((((p / 2) ^^^ 2 ^ 127) ^^^ 2 ^ 126) ^^^ 2 ^ 125)).getD 120 0) 1))=(wA .i64 128 (pL (((((p / 2) ^^^ 2 ^ 127) ^^^ 2 ^ 126) ^^^ 2 ^ 125) ^^^ 2 ^ 120)))))] 0 (fun j M=>by kernel_rfl) (A1 (decide_eq_true (by rw[pL_at (by decide)];unfold bti;rw[hb0];rfl)) (A1 (bdd rfl) (A1 ⟨(wA_get (by omega) (by omega)),rfl⟩ (A1 (bdd rfl) (A1 (pL_put (by decide) rfl (fun k _=>bt_flip (p / 2) 127 (by rw[pL_at (by decide),xb1]) k)) (A1 (bdd rfl) (A1 ⟨(wA_get (by omega) (by omega)),rfl⟩ (A1 (bdd rfl) (A1 (pL_put (by decide) rfl (fun k _=>bt_flip ((p / 2) ^^^ 2 ^ 127) 126 (by rw[pL_at (by decide),xb1]) k)) (A1 (bdd rfl) (A1 ⟨(wA_get (by omega) (by omega)),rfl⟩ (A1 (bdd rfl) (A1 (pL_put (by decide) rfl (fun k _=>bt_flip (((p / 2) ^^^ 2 ^ 127) ^^^ 2 ^ 126) 125 (by rw[pL_at (by decide),xb1]) k)) (A1 (bdd rfl) (A1 ⟨(wA_get (by omega) (by omega)),rfl⟩ (A1 (bdd rfl) (A1 (pL_put (by decide) rfl (fun k _=>bt_flip ((((p / 2) ^^^ 2 ^ 127) ^^^ 2 ^ 126) ^^^ 2 ^ 125) 120 (by rw[pL_at (by decide),xb1]) k)) A0))))))))))))))))) ⟨⟨by rw[fD_chain p hl,hb0];rfl⟩,rfl⟩
theorem dDo0c (hb0:¬ p.testBit 0=true):dDoA_R [1,1,0,1,0,0,1,0,0,1,1,1,0] (dDoI k_22) .normal (fun z_=>∃(k_23:dDoJ_c k_22 (p / 2)),z_=dDoJ k_23):=by
  have⟨hp,hl,hi⟩:=id k_19
  exact rn_ev (yty.en tabY1) dDoA_h mixed _ none [some (.bool false)] [(3,(decide (((pL p).getD 0 0)=1))=false)] 0 (fun j M=>by kernel_rfl) (A1 (decide_eq_false (by rw[pL_at (by decide)];unfold bti;rw[fb_of hb0];decide)) A0) ⟨⟨by rw[fD_chain p hl,fb_of hb0];rfl⟩,rfl⟩
theorem dDo0d:dDoA_R [1,1,0,1,0,0,1,0,0,1,1,1,0] (dDoI k_22) .normal (fun z_=>∃(v:Nat) (k_23:dDoJ_c k_22 v),z_=dDoJ k_23):=by
  by_cases hb0:p.testBit 0=true
  · exact(dDo0b hb0).mono fun _ ⟨k_23,e_⟩=>⟨_,k_23,e_⟩
  · exact(dDo0c hb0).mono fun _ ⟨k_23,e_⟩=>⟨_,k_23,e_⟩
abbrev dDoK (_:dDoJ_c k_22 v):FS:=⟨false,52,[(4,.pointer (some ⟨2,0,none⟩)),(5,.pointer (some ⟨3,0,none⟩)),(6,.int .i64 ((i:Nat):Int))],[((wA .u8 16 A),(22,(0,0))),((wA .u8 16 B),(22,(0,0))),((wA .u8 16 []),(22,(0,0))),((wA .i64 128 (pL v)),(47,(0,0)))]⟩
theorem dDo0e:dDoA_R [1,1,0,1,0,0,1,0,0,1,1,1,1] (dDoJ k_23) .normal (fun z_=>z_=dDoK k_23):=by
  exact rn_ev (yty.en tabY1) dDoA_h mixed _ (some (false,4)) [] [(2,((wA .i64 128 (pL v)).all (fun v=>v.oneCell')=true))] 0 (fun j M=>by kernel_rfl) (A1 (wA_one _ _ _) A0) rfl
theorem dDo0f:dDoA_R [1,1,0,1,0,0,1,0,0,1,1,1] (dDoI k_22) .normal (fun z_=>∃(v0:Nat) (k_23:dDoJ_c k_22 v0),z_=dDoK k_23):=by
  refine rn_seq (w:= [1,1,0,1,0,0,1,0,0,1,1,1]) (by kernel_rfl) dDo0d ?_
  rintro _ ⟨v0,k_23,rfl⟩
  exact(dDo0e).mono fun _ e_=>⟨v0,k_23,e_⟩
theorem dDo0g:dDoA_R [1,1,0,1,0,0,1,0,0,1,1] (dDoG k_20) .normal (fun z_=>∃(k10 v01:Nat) (k_22:dDoI_c k_20 k10) (k_23:dDoJ_c k_22 v01),z_=dDoK k_23):=by
  refine rn_seq (w:= [1,1,0,1,0,0,1,0,0,1,1]) (by kernel_rfl) dDo0a ?_
  rintro _ ⟨k10,k_22,rfl⟩
  exact(dDo0f).mono fun _ ⟨v01,k_23,e_⟩=>⟨k10,v01,k_22,k_23,e_⟩
theorem dDo0i:dDoA_R [1,1,0,1,0,0,1,0,0,1] (dDoF k_20) .normal (fun z_=>∃(k101 v011:Nat) (k_22:dDoI_c k_20 k101) (k_23:dDoJ_c k_22 v011),z_=dDoK k_23):=by
  refine rn_seq (w:= [1,1,0,1,0,0,1,0,0,1]) (by kernel_rfl) dDo5 ?_
  rintro _ rfl
  exact dDo0g
theorem dDo0h:dDoA_R [1,1,0,1,0,0,1,0,0] (dDoE k_20) .normal (fun z_=>∃(k1011 v0111:Nat) (k_22:dDoI_c k_20 k1011) (k_23:dDoJ_c k_22 v0111),z_=dDoK k_23):=by
  refine rn_seq (w:= [1,1,0,1,0,0,1,0,0]) (by kernel_rfl) dDo4 ?_
  rintro _ rfl
  exact dDo0i
theorem dDo0j:dDoA_R [1,1,0,1,0,0,1,0] (dDoE k_20) .normal (fun z_=>∃(k1011 v0111:Nat) (k_22:dDoI_c k_20 k1011) (k_23:dDoJ_c k_22 v0111),z_=dDoK k_23):=by
  exact rn_block (k:=1) (w:= [1,1,0,1,0,0,1,0]) (by kernel_rfl) dDo0h
theorem dDo0k:dDoA_R [1,1,0,1,0,0,1,1] (dDoK k_23) .normal (fun z_=>∃(k_19:dDoD_c k_17 (i+1) v),z_=dDoD k_19):=by
  have⟨hA,hB⟩:=id k_17
  have⟨hp,hl,hi⟩:=id k_19
  have⟨hi1⟩:=id k_20
  have⟨hv⟩:=id k_23
  exact rn_ev (yty.en tabY1) dDoA_h mixed _ none [some (.int .i64 ((i+1:Nat):Int))] [(3,(IntKind.i64.wrap (((i:Nat):Int)+1))=((i+1:Nat):Int))] 1 (fun j M=>by kernel_rfl) (A1 (wi64 (by omega)) A0) ⟨⟨by rw[hv,hp];rfl,by rw[hv];exact fD_lt hl,by omega⟩,rfl⟩
theorem dDo0l:dDoA_R [1,1,0,1,0,0,1] (dDoE k_20) .normal (fun z_=>∃(k10110 v01110:Nat) (k_19:dDoD_c k_17 (i+1) v01110),z_=dDoD k_19):=by
  refine rn_seq (w:= [1,1,0,1,0,0,1]) (by kernel_rfl) dDo0j ?_
  rintro _ ⟨k10110,v01110,k_22,k_23,rfl⟩
  exact(dDo0k).mono fun _ ⟨k_19,e_⟩=>⟨k10110,v01110,k_19,e_⟩
theorem dDo0m (hlt:i<128):dDoA_R [1,1,0,1,0,0] (dDoD k_19) .normal (fun z_=>∃(k101101 v011101:Nat) (k_19:dDoD_c k_17 (i+1) v011101),z_=dDoD k_19):=by
  refine rn_seq (w:= [1,1,0,1,0,0]) (by kernel_rfl) (dDo3 hlt) ?_
  rintro _ ⟨k_20,rfl⟩
  exact dDo0l
structure dDoL_c (_:dDoA_c A B) (i p:Nat):Prop where
  hp:p=fI 128 (tmN (nL A) (nL B))
  hl:p<2 ^ 128
variable {k_24:dDoL_c k_17 i p}
abbrev dDoL (_:dDoL_c k_17 i p):FS:=⟨false,52,[(4,.pointer (some ⟨2,0,none⟩)),(5,.pointer (some ⟨3,0,none⟩))],[((wA .u8 16 A),(22,(0,0))),((wA .u8 16 B),(22,(0,0))),((wA .u8 16 []),(22,(0,0))),((wA .i64 128 (pL p)),(47,(0,0)))]⟩
theorem dDo0n (hge:¬ i<128):dDoA_R [1,1,0,1,0,0] (dDoD k_19) (.exit 0) (fun z_=>∃(k_24:dDoL_c k_17 i p),z_=dDoL k_24):=by
  have⟨hA,hB⟩:=id k_17
  have⟨hp,hl,hi⟩:=id k_19
  exact rn_ev (yty.en tabY1) dDoA_h mixed _ none [some (.bool false)] [(3,(decide (((i:Nat):Int)<128))=false)] 0 (fun j M=>by kernel_rfl) (A1 (decide_eq_false (by omega)) A0) ⟨⟨by rw[hp,show i=128 by omega],hl⟩,rfl⟩
theorem dDo0o:dDoA_R [1,1,0,1] (dDoD k_19) .normal (fun z_=>∃(i p:Nat) (k_24:dDoL_c k_17 i p),z_=dDoL k_24):=by
  refine rn_loop (k:=0) (w:= [1,1,0,1]) (by kernel_rfl) (fun n_ z_=>∃(i p:Nat) (k_19:dDoD_c k_17 i p),n_=128 - i∧z_=dDoD k_19) _ ⟨_,_,k_19,rfl,rfl⟩ ?_
  rintro n_ _ ⟨i,p,k_19,hn_,rfl⟩
  have⟨hA,hB⟩:=k_17
  have⟨hp,hl,hi⟩:=k_19
  by_cases hlt:i<128
  · exact(dDo0m hlt).x fun _ ⟨k101101_,v011101_,k_19,e_⟩=> .inl ⟨rfl,128 - (i+1),by omega,⟨_,_,k_19,rfl,e_⟩⟩
  · exact(dDo0n hlt).x fun _ ⟨k_24,e_⟩=> .inr ⟨rfl,⟨i,p,k_24,e_⟩⟩
theorem dDo0p:dDoA_R [1,1,0] (dDoC k_18) .normal (fun z_=>∃(i1 p1:Nat) (k_24:dDoL_c k_17 i1 p1),z_=dDoL k_24):=by
  refine rn_seq (w:= [1,1,0]) (by kernel_rfl) dDo2 ?_
  rintro _ ⟨k_19,rfl⟩
  exact dDo0o
structure dDoM_c (A B:List Int) (i p:Nat) (E:List Int):Prop where
  hE:E=dotL A B
variable {E:List Int} {k_25:dDoM_c A B i p E}
abbrev dDoM (_:dDoM_c A B i p E):FS:=⟨false,52,[(4,.pointer (some ⟨2,0,none⟩))],[((wA .u8 16 A),(22,(0,0))),((wA .u8 16 B),(22,(0,0))),((wA .u8 16 E),(22,(0,0))),((wA .i64 128 (pL p)),(47,(0,0)))]⟩
theorem dDo0q:dDoA_R [1,1,1] (dDoL k_24) .ret (fun z_=>∃(k_25:dDoM_c A B i p (eL (dP (wA .i64 128 (pL p))))),z_=dDoM k_25):=by
  have⟨hA,hB⟩:=id k_17
  have⟨hp,hl⟩:=id k_24
  exact rn_ev (yty.en tabY1) dDoA_h mixed _ none [] [(2,((wA .i64 128 (pL p))=wA .i64 128 (pL (dP (wA .i64 128 (pL p))))∧dP (wA .i64 128 (pL p))<2 ^ 128)),(0,((wA .u8 16 (eL (dP (wA .i64 128 (pL p))))).all (fun v=>v.oneCell')=true))] 0 (fun j M=>by kernel_rfl) (A1 (pq hl) (A1 (wA_one _ _ _) A0)) ⟨⟨by rw[dP_pL hl,dotL_eq hA hB,hp,tm_dot (nL_lt hA) (nL_lt hB)]⟩,rfl⟩
theorem dDou':dDoA_R [] (dDoA k_17) .ret (fun z_=>∃(i12 p12:Nat) (k_25:dDoM_c A B i12 p12 (eL (dP (wA .i64 128 (pL p12))))),z_=dDoM k_25):=by
  refine rn_seq (w:= []) (by kernel_rfl) dDo0 ?_
  rintro _ rfl
  refine rn_seq (w:= [1]) (by kernel_rfl) dDo1 ?_
  rintro _ ⟨k_18,rfl⟩
  refine rn_seq (w:= [1,1]) (by kernel_rfl) dDo0p ?_
  rintro _ ⟨i12,p12,k_24,rfl⟩
  exact(dDo0q).mono fun _ ⟨k_25,e_⟩=>⟨i12,p12,k_25,e_⟩
abbrev dDoA_s (A B:List Int) (j:Nat→Value):List Value:=([.agg (wA .u8 16 A),.agg (wA .u8 16 B)] ++ (JU 50))
abbrev dDoA_m (A B:List Int):List Mb:= []
abbrev dDoM_s (A B:List Int) (i p:Nat) (E:List Int) (j:Nat→Value):List Value:=(J j 0 4 ++ ([.pointer (some ⟨2,0,none⟩)] ++ (J j 5 47)))
abbrev dDoM_m (A B:List Int) (i p:Nat) (E:List Int):List Mb:= [((wA .u8 16 A),(22,(0,0))),((wA .u8 16 B),(22,(0,0))),((wA .u8 16 E),(22,(0,0))),((wA .i64 128 (pL p)),(47,(0,0)))]
theorem dDou (A B:List Int) (j:Nat→Value) (hA:By A) (hB:By B)  {c0:Prop} {ch0:List (Option Value)}:Runs Try.prog (cAt [] (bdy Try.f10)) ⟨dDoA_s A B j,dDoA_m A B,c0,ch0⟩ (fun e s=>e= .ret∧∃(i12:Nat) (p12:Nat) (j:Nat→Value) (c:Prop) (ch:List (Option Value)),((eL (dP (wA .i64 128 (pL p12))))=dotL A B)∧s=⟨dDoM_s A B i12 p12 (eL (dP (wA .i64 128 (pL p12)))) j,dDoM_m A B i12 p12 (eL (dP (wA .i64 128 (pL p12)))),c,ch⟩) 0:=by
  refine(Rn.old (dDou' (k_17:=(⟨hA,hB⟩:dDoA_c A B))) j (by kernel_rfl)).mono ?_
  rintro e s ⟨rfl,_,⟨i12,p12,k_25,rfl⟩,j,c,ch,rfl⟩
  have⟨x_hE⟩:=k_25
  exact⟨rfl,i12,p12,j,c,ch,x_hE,by kernel_rfl⟩
theorem dDo_c (A B:List Int) (hA:By A) (hB:By B):Pure Try.prog 10 #[.agg (wA .u8 16 A),.agg (wA .u8 16 B)] (.agg (wA .u8 16 (dotL A B))):=by
  refine pure_runs (E:=(yty.en tabY1)) Try.func10 (c:=bdy Try.f10) (by kernel_rfl) (args:= [.agg (wA .u8 16 A),.agg (wA .u8 16 B)]) (by kernel_rfl) (K:=fun e s=>e= .ret∧resS (yty.en tabY1) s Try.f10.results.toList=some [.agg (wA .u8 16 (dotL A B))]) ?_ (fun e s h=>⟨h.1,_,h.2,rfl⟩)
  refine(dDou A B (fun _=>undef) hA hB).mono ?_
  rintro e s ⟨rfl,i,p,j,c,ch,hE,rfl⟩
  rw[← hE]
  exact⟨rfl,by kernel_rfl⟩
def pdd:Entry Try.prog:=entLL Try.func10 (by kernel_rfl) (by kernel_rfl) 16 16 (fun A B=> .agg (wA .u8 16 (dotL A B))) (fun A B h1 h2=>dDo_c A B h1 h2)
end Go.Proofs.Ythldpfindbhkeaa

set_option linter.unusedSimpArgs false
set_option linter.unusedVariables false
/-! siv: the document's POLYVAL. -/
namespace Go.Proofs.Ythldpfindbhkeaa
open Go.RowKit Go.Ev
theorem apY:ApT Try.prog 26 5 .u8 1:=⟨Try.underlying26,by kernel_rfl⟩
theorem Bk.src {a:Array Value} {t:Tq} {g:List Mb} {bp:Option Addr} {r q:Nat} (h:Bk a bp r q):SrcOk .u8 ((a,t) :: g) (.slice bp r q) (bO a bp r):=by
  obtain⟨_,⟨rfl,rfl,rfl⟩|⟨p,rfl,hb,hz⟩⟩:=h
  · exact src_nil
  · exact src_b rfl hb hz
theorem rep_cat2 {N X:List Int} {k:Nat} (h:X=N ++ List.replicate k 0):X ++ [0]=N ++ List.replicate (k+1) 0:=by
  rw[h,List.append_assoc,← List.replicate_succ']
theorem makes_one {P:Program} {f:FuncId} {m:Mb} {mem:List Mb} {args:List Value} {q:IntKind} {n:Nat} {L:List Int} {e:TypeId} {ng:Nat} (h:MakesA P f [m] args q n L e) (hm:mem[0]? =some m):MakesA P f mem args q n L e ng:=fun w β hw _=>
  h w β (fun i x hx => by
    match i,hx with
    | 0, hx =>
      simp only[List.getElem?_cons_zero,Option.some.injEq] at hx
      subst hx
      exact hw 0 _ hm
    |i+1,hx=>simp at hx) (fun i hi=>by simp at hi)
def fuL (N:List Int):List Int:=N ++ List.replicate ((16 - N.length%16)%16) 0
theorem fuL_len (N:List Int):(fuL N).length=N.length+(16 - N.length%16)%16:=by simp[fuL]
theorem fuL_at (N:List Int) (i:Nat):(fuL N).getD i 0=N.getD i 0:=by
  unfold fuL
  rw[getD_app]
  by_cases h:i<N.length
  · rw[if_pos h]
  · rw [if_neg h, List.getD_eq_getElem?_getD, List.getD_eq_getElem?_getD, List.getElem?_replicate, List.getElem?_eq_none (Nat.not_lt.1 h)]
    split<;>rfl
def dFuA_h (i:Nat):Hn:=⟨0,[],[],[],[]⟩
abbrev dFuA_R (w:List Nat) (S:FS) (e:Exit) (K:FS→Prop):Prop:=Rn Try.prog (cAt w (bdy Try.f34)) S e K 1
structure dFuA_c (a:Array Value) (t:Tq) (bp:Option Addr) (l cp:Nat) (N:List Int):Prop where
  hb:Bk a bp l cp
  hN:bO a bp l=N
  hNl:N.length=l
  hl:l≤1000000
variable {a:Array Value} {t:Tq} {bp:Option Addr} {l cp:Nat} {N:List Int} {k_1:dFuA_c a t bp l cp N}
abbrev dFuA (_:dFuA_c a t bp l cp N):FS:=⟨true,15,[(0,.slice bp l cp)],[(a,t)]⟩
abbrev dFuB (_:dFuA_c a t bp l cp N):FS:=⟨false,15,[(0,.slice bp l cp)],[(a,t)]⟩
theorem dFu0:dFuA_R [0] (dFuA k_1) .normal (fun z_=>z_=dFuB k_1):=by
  exact rn_ev (yty.enf tabV0 1) dFuA_h mixed _ none [] [] 1 (fun j M=>by kernel_rfl) A0 rfl
structure dFuC_c (_:dFuA_c a t bp l cp N) (Z k n cap:Nat) (X:List Int):Prop where
  hX:X=N ++ List.replicate k 0
  hXl:X.length=n
  hn:n=l+k
  hc:n≤cap
  hZ:Z=(16 - l%16)%16
  hk:k≤Z
variable {Z k n cap:Nat} {X:List Int} {k_2:dFuC_c k_1 Z k n cap X}
abbrev dFuC (_:dFuC_c k_1 Z k n cap X):FS:=⟨false,15,[(3,.slice (some ⟨1,0,none⟩) n cap)],[(a,t),((wA .u8 cap X),(5,(0,0)))]⟩
theorem dFu1:dFuA_R [1,0] (dFuB k_1) .normal (fun z_=>∃(k1:Nat) (k_2:dFuC_c k_1 ((16 - l%16)%16) 0 l k1 N),z_=dFuC k_2):=by
  have⟨hb,hN,hNl,hl⟩:=id k_1
  refine rn_reg none (by kernel_rfl) fun j c0 ch0=> ?_
  refine rl_app (yty.enf tabV0 1) apY apY.ht 2 [] [] 1 [(a,t),((wA .u8 0 []),(5,(0,0)))] 1 0 0 ([]:List Int) N (.slice bp l cp) (some 6) (by kernel_rfl) A0 rfl (by simp) (by subst hN;exact hb.src) (by simp only[List.length_nil];omega) fun n1 k1 M1 c1_ e1_ hn1 hk1=> ?_
  try simp only[zL] at hn1
  obtain rfl:n1=l:=by omega
  exact rl_end (E:=(yty.enf tabV0 1)) _ [] [] 1 (fun M=>by kernel_rfl) A0 ⟨k1,⟨by simp,hNl,rfl,by omega,rfl,Nat.zero_le _⟩,rfl⟩
theorem dFu2 (hlt:k<Z):dFuA_R [1,1,0,0,0,0] (dFuC k_2) .normal (fun z_=>z_=dFuC k_2):=by
  have⟨hb,hN,hNl,hl⟩:=id k_1
  have⟨hX,hXl,hn,hc,hZ,hk⟩:=id k_2
  exact rn_ev (yty.enf tabV0 1) dFuA_h mixed _ none [some (.int .i64 ((n%16:Nat):Int)),some (.bool true)] [(4,(((16:Int)≠0)∧(Int.tmod ((n:Nat):Int) 16)=((n%16:Nat):Int))),(1,(!decide (((n%16:Nat):Int)=0))=true)] 0 (fun j M=>by kernel_rfl) (A1 ⟨(by decide),(by exact tmodN n 16)⟩ (A1 (neT (by omega)) A0)) rfl
structure dFuD_c (_:dFuA_c a t bp l cp N) (Z k n cap:Nat) (X:List Int):Prop where
  hX:X=N ++ List.replicate k 0
  hXl:X.length=n
  hn:n=l+k
  hc:n≤cap
  hZ:Z=(16 - l%16)%16
  hk:k=Z
variable {k_3:dFuD_c k_1 Z k n cap X}
abbrev dFuD (_:dFuD_c k_1 Z k n cap X):FS:=⟨false,15,[(3,.slice (some ⟨1,0,none⟩) n cap)],[(a,t),((wA .u8 cap X),(5,(0,0)))]⟩
theorem dFu3 (hge:¬ k<Z):dFuA_R [1,1,0,0,0,0] (dFuC k_2) (.exit 0) (fun z_=>∃(k_3:dFuD_c k_1 Z k n cap X),z_=dFuD k_3):=by
  have⟨hb,hN,hNl,hl⟩:=id k_1
  have⟨hX,hXl,hn,hc,hZ,hk⟩:=id k_2
  exact rn_ev (yty.enf tabV0 1) dFuA_h mixed _ none [some (.int .i64 ((n%16:Nat):Int)),some (.bool false)] [(4,(((16:Int)≠0)∧(Int.tmod ((n:Nat):Int) 16)=((n%16:Nat):Int))),(1,(!decide (((n%16:Nat):Int)=0))=false)] 0 (fun j M=>by kernel_rfl) (A1 ⟨(by decide),(by exact tmodN n 16)⟩ (A1 (neF (by omega)) A0)) ⟨⟨hX,hXl,hn,hc,hZ,by omega⟩,rfl⟩
theorem dFu4 (hlt:k<Z):dFuA_R [1,1,0,0,0,1,0] (dFuC k_2) .normal (fun z_=>∃(k1:Nat) (k_2:dFuC_c k_1 Z (k+1) (n+1) k1 (X ++ [0])),z_=dFuC k_2):=by
  have⟨hb,hN,hNl,hl⟩:=id k_1
  have⟨hX,hXl,hn,hc,hZ,hk⟩:=id k_2
  refine rn_reg (some (false,2)) (by kernel_rfl) fun j c0 ch0=> ?_
  refine rl_app (yty.enf tabV0 1) apY apY.ht 2 [] [] 1 [(a,t),((wA .u8 cap X),(5,(0,0))),((wA .u8 1 [0]),(5,(0,0)))] 1 n cap X ([0]:List Int) (.slice (some ⟨2,0,none⟩) 1 1) (some 13) (by kernel_rfl) A0 (by omega) (by omega) (src_wA (i:=2) rfl rfl (by decide)) (by simp only[List.length_cons,List.length_nil];omega) fun n1 k1 M1 c1_ e1_ hn1 hk1=> ?_
  try simp only[zL] at hn1
  obtain rfl:n1=n+1:=by omega
  exact rl_end (E:=(yty.enf tabV0 1)) _ [] [] 1 (fun M=>by kernel_rfl) A0 ⟨k1,⟨rep_cat2 hX,by simp only[List.length_append,List.length_cons,List.length_nil];omega,by omega,by omega,hZ,by omega⟩,rfl⟩
theorem dFu5 (hlt:k<Z):dFuA_R [1,1,0,0,0,1] (dFuC k_2) .normal (fun z_=>∃(k1:Nat) (k_2:dFuC_c k_1 Z (k+1) (n+1) k1 (X ++ [0])),z_=dFuC k_2):=by
  exact rn_block (k:=1) (w:= [1,1,0,0,0,1]) (by kernel_rfl) (dFu4 hlt)
theorem dFu6 (hlt:k<Z):dFuA_R [1,1,0,0,0] (dFuC k_2) .normal (fun z_=>∃(k11:Nat) (k_2:dFuC_c k_1 Z (k+1) (n+1) k11 (X ++ [0])),z_=dFuC k_2):=by
  refine rn_seq (w:= [1,1,0,0,0]) (by kernel_rfl) (dFu2 hlt) ?_
  rintro _ rfl
  exact(dFu5 hlt)
theorem dFu7:dFuA_R [1,1,0] (dFuC k_2) .normal (fun z_=>∃(k n cap:Nat) (X:List Int) (k_3:dFuD_c k_1 Z k n cap X),z_=dFuD k_3):=by
  refine rn_loop (k:=0) (w:= [1,1,0]) (by kernel_rfl) (fun n_ z_=>∃(k n cap:Nat) (X:List Int) (k_2:dFuC_c k_1 Z k n cap X),n_=Z - k∧z_=dFuC k_2) _ ⟨_,_,_,_,k_2,rfl,rfl⟩ ?_
  rintro n_ _ ⟨k,n,cap,X,k_2,hn_,rfl⟩
  have⟨hb,hN,hNl,hl⟩:=k_1
  have⟨hX,hXl,hn,hc,hZ,hk⟩:=k_2
  by_cases hlt:k<Z
  · exact(dFu6 hlt).x fun _ ⟨k11_,k_2,e_⟩=> .inl ⟨rfl,Z - (k+1),by omega,⟨_,_,_,_,k_2,rfl,e_⟩⟩
  · exact(rn_seqx (w:= [1,1,0,0,0]) (by kernel_rfl) (dFu3 hlt) (by simp)).x fun _ ⟨k_3,e_⟩=> .inr ⟨rfl,⟨k,n,cap,X,k_3,e_⟩⟩
abbrev dFuE (_:dFuD_c k_1 Z k n cap X):FS:=⟨false,15,[(2,.slice (some ⟨1,0,none⟩) n cap)],[(a,t),((wA .u8 cap X),(5,(0,0)))]⟩
theorem dFu8:dFuA_R [1,1,1] (dFuD k_3) .ret (fun z_=>z_=dFuE k_3):=by
  exact rn_ev (yty.enf tabV0 1) dFuA_h mixed _ none [] [] 2 (fun j M=>by kernel_rfl) A0 rfl
theorem dFuu':dFuA_R [] (dFuA k_1) .ret (fun z_=>∃(k11 k2 n2 cap2:Nat) (X2:List Int) (k_3:dFuD_c k_1 ((16 - l%16)%16) k2 n2 cap2 X2),z_=dFuE k_3):=by
  refine rn_seq (w:= []) (by kernel_rfl) dFu0 ?_
  rintro _ rfl
  refine rn_seq (w:= [1]) (by kernel_rfl) dFu1 ?_
  rintro _ ⟨k11,k_2,rfl⟩
  refine rn_seq (w:= [1,1]) (by kernel_rfl) dFu7 ?_
  rintro _ ⟨k2,n2,cap2,X2,k_3,rfl⟩
  exact(dFu8).mono fun _ e_=>⟨k11,k2,n2,cap2,X2,k_3,e_⟩
abbrev dFuA_s (a:Array Value) (t:Tq) (bp:Option Addr) (l cp:Nat) (N:List Int) (j:Nat→Value):List Value:=([.slice bp l cp] ++ (JU 14))
abbrev dFuA_m (a:Array Value) (t:Tq) (bp:Option Addr) (l cp:Nat) (N:List Int):List Mb:= [(a,t)]
abbrev dFuE_s (a:Array Value) (t:Tq) (bp:Option Addr) (l cp:Nat) (N:List Int) (Z k n cap:Nat) (X:List Int) (j:Nat→Value):List Value:=([j 0,j 1,.slice (some ⟨1,0,none⟩) n cap] ++ (J j 3 12))
abbrev dFuE_m (a:Array Value) (t:Tq) (bp:Option Addr) (l cp:Nat) (N:List Int) (Z k n cap:Nat) (X:List Int):List Mb:= [(a,t),((wA .u8 cap X),(5,(0,0)))]
theorem dFuu (a:Array Value) (t:Tq) (bp:Option Addr) (l cp:Nat) (N:List Int) (j:Nat→Value) (hb:Bk a bp l cp) (hN:bO a bp l=N) (hNl:N.length=l) (hl:l≤1000000)  {c0:Prop} {ch0:List (Option Value)}:Runs Try.prog (cAt [] (bdy Try.f34)) ⟨dFuA_s a t bp l cp N j,dFuA_m a t bp l cp N,c0,ch0⟩ (fun e s=>e= .ret∧∃(k11:Nat) (k2:Nat) (n2:Nat) (cap2:Nat) (X2:List Int) (j:Nat→Value) (c:Prop) (ch:List (Option Value)),(X2=N ++ List.replicate k2 0)∧(X2.length=n2)∧(n2=l+k2)∧(n2≤cap2)∧(((16 - l%16)%16)=(16 - l%16)%16)∧(k2=((16 - l%16)%16))∧s=⟨dFuE_s a t bp l cp N ((16 - l%16)%16) k2 n2 cap2 X2 j,dFuE_m a t bp l cp N ((16 - l%16)%16) k2 n2 cap2 X2,c,ch⟩) 1:=by
  refine(Rn.old (dFuu' (k_1:=(⟨hb,hN,hNl,hl⟩:dFuA_c a t bp l cp N))) j (by kernel_rfl)).mono ?_
  rintro e s ⟨rfl,_,⟨k11,k2,n2,cap2,X2,k_3,rfl⟩,j,c,ch,rfl⟩
  have⟨x_hX,x_hXl,x_hn,x_hc,x_hZ,x_hk⟩:=k_3
  exact⟨rfl,k11,k2,n2,cap2,X2,j,c,ch,x_hX,x_hXl,x_hn,x_hc,x_hZ,x_hk,by kernel_rfl⟩
theorem dFu_c (a:Array Value) (t:Tq) (bp:Option Addr) (l cp:Nat) (hb:Bk a bp l cp) (hl:l≤1000000):MakesA Try.prog 34 [(a,t)] [.slice bp l cp] .u8 (fuL (bO a bp l)).length (fuL (bO a bp l)) 5:=
  makesA_runs (fk:=1) Try.func34 (c:=bdy Try.f34) (by kernel_rfl) ⟨rfl,by decide⟩ (args:= [.slice bp l cp]) (by obtain⟨_,⟨rfl,rfl,_⟩|⟨p,rfl,_,_⟩⟩:=hb<;>kernel_rfl) (r:=2) (by kernel_rfl) (dFuu a t bp l cp (bO a bp l) (fun _=>undef) hb rfl (bO_len hb) hl) (fun e s h=>by
    obtain⟨rfl,k1,k,n,cap,X,j,c,ch,hX,hXl,hn,hc,_,hk,rfl⟩:=h
    have e:X=fuL (bO a bp l):=by
      rw[hX,hk]
      unfold fuL
      rw[bO_len hb]
    have e2:n=(fuL (bO a bp l)).length:=by rw[← e,hXl]
    refine⟨rfl,1,cap,by decide,by rw[← e2];exact hc,?_,?_⟩
    · rw[← e2];rfl
    · rw[← e];rfl)
theorem absN_end (H:List Int):∀(n:Nat) (S L:List Int),absN H (n+1) S L=dotL (xr (absN H n S L) (L.drop (16*n))) H
  |0,S,L=>rfl
  | n + 1, S, L => by
    rw[absN,absN_end H n,absN,List.drop_drop,show 16+16*n=16*(n+1) by omega]
theorem drop_at (L:List Int) (n i:Nat):(L.drop n).getD i 0=L.getD (n+i) 0:=by
  rw[List.getD_eq_getElem?_getD,List.getElem?_drop,← List.getD_eq_getElem?_getD]
theorem absN_cong (H:List Int):∀(n:Nat) (S L Y:List Int),(∀ i,L.getD i 0=Y.getD i 0)→absN H n S L=absN H n S Y
  |0,_,_,_,_=>rfl
  | n + 1, S, L, Y, h => by
    have e:xr S L=xr S Y:=List.map_congr_left fun i _=>by rw[h i]
    rw[absN,absN,e]
    exact absN_cong H n _ _ _ fun i=>by rw[drop_at,drop_at,h]
theorem absL_full (H N:List Int):wA .u8 16 (absN H ((fuL N).length / 16) [] (fuL N))=wA .u8 16 (absL H [] N):=by
  unfold absL
  rw[absN_n,absN_cong H _ [] _ N (fuL_at N),show(fuL N).length / 16=(N.length+15) / 16 by rw[fuL_len];omega]
theorem xrv_xr (S B:List Int):xrv S B 16=xr S B:=List.map_congr_left fun i hi=>by
  have hi:i<16:=by simpa using hi
  rw[if_pos hi]
def dPvA_h (i:Nat):Hn:=if i=9 then⟨12,[],[],[],[]⟩ else⟨0,[],[],[],[]⟩
abbrev dPvA_R (w:List Nat) (S:FS) (e:Exit) (K:FS→Prop):Prop:=Rn Try.prog (cAt w (bdy Try.f17)) S e K 1
structure dPvA_c (a:Array Value) (t:Tq) (H N:List Int) (bp:Option Addr) (l cp:Nat):Prop where
  hH:By H
  hN:By N
  hb:Bk a bp l cp
  hbN:bO a bp l=N
  hl:l≤1000000
variable {H:List Int} {k_4:dPvA_c a t H N bp l cp}
abbrev dPvA (_:dPvA_c a t H N bp l cp):FS:=⟨true,37,[(0,.agg (wA .u8 16 H)),(1,.slice bp l cp)],[(a,t)]⟩
abbrev dPvB (_:dPvA_c a t H N bp l cp):FS:=⟨false,37,[(1,.slice bp l cp),(2,.pointer (some ⟨1,0,none⟩)),(4,.pointer (some ⟨2,0,none⟩))],[(a,t),((wA .u8 16 H),(22,(0,0))),((wA .u8 16 []),(22,(0,0)))]⟩
theorem dPv0:dPvA_R [0] (dPvA k_4) .normal (fun z_=>z_=dPvB k_4):=by
  exact rn_ev (yty.enf (pdd :: []) 1) dPvA_h mixed _ none [] [] 0 (fun j M=>by kernel_rfl) A0 rfl
abbrev dPvC (_:dPvA_c a t H N bp l cp):FS:=⟨false,37,[(1,.slice bp l cp),(2,.pointer (some ⟨1,0,none⟩)),(4,.pointer (some ⟨2,0,none⟩)),(5,.pointer (some ⟨3,0,none⟩))],[(a,t),((wA .u8 16 H),(22,(0,0))),((wA .u8 16 []),(22,(0,0))),((wA .u8 16 []),(22,(0,0)))]⟩
theorem dPv1:dPvA_R [1,0] (dPvB k_4) .normal (fun z_=>z_=dPvC k_4):=by
  exact rn_ev (yty.enf (pdd :: []) 1) dPvA_h mixed _ none [] [] 0 (fun j M=>by kernel_rfl) A0 rfl
structure dPvD_c (_:dPvA_c a t H N bp l cp) (n cap:Nat):Prop where
  hn:n=(fuL N).length
  hc:n≤cap
  h16:n%16=0
  hnl:n≤2000000
variable {k_5:dPvD_c k_4 n cap}
abbrev dPvD (_:dPvD_c k_4 n cap):FS:=⟨false,37,[(2,.pointer (some ⟨1,0,none⟩)),(4,.pointer (some ⟨2,0,none⟩)),(5,.pointer (some ⟨3,0,none⟩)),(6,.slice (some ⟨4,0,none⟩) n cap)],[(a,t),((wA .u8 16 H),(22,(0,0))),((wA .u8 16 []),(22,(0,0))),((wA .u8 16 []),(22,(0,0))),((wA .u8 cap (fuL N)),(5,(0,0)))]⟩
theorem dPv2:dPvA_R [1,1,0] (dPvC k_4) .normal (fun z_=>∃(k1:Nat) (k_5:dPvD_c k_4 ((fuL N).length) k1),z_=dPvD k_5):=by
  have⟨hH,hN,hb,hbN,hl⟩:=id k_4
  refine rn_reg none (by kernel_rfl) fun j c0 ch0=> ?_
  have hM1:MakesA Try.prog 34 [(a,t),((wA .u8 16 H),(22,(0,0))),((wA .u8 16 []),(22,(0,0))),((wA .u8 16 []),(22,(0,0)))] [.slice bp l cp] .u8 ((fuL N).length) (fuL N) 5 0:=(by have h:=dFu_c a t bp l cp hb hl;rw[hbN] at h;exact makes_one h rfl)
  refine rl_call (yty.enf (pdd :: []) 1) (call_of Try.func34 (by kernel_rfl) (by kernel_rfl)) 1 [] [] 1 4 (some 10) hM1 (by kernel_rfl) A0 fun k1 c1_ e1_ hk1=> ?_
  exact rl_end (E:=(yty.enf (pdd :: []) 1)) _ [] [] 1 (fun M=>by kernel_rfl) A0 ⟨k1,⟨rfl,hk1,by rw[fuL_len];omega,by rw[fuL_len,← hbN,bO_len hb];omega⟩,rfl⟩
structure dPvE_c (_:dPvD_c k_4 n cap) (q:Nat) (S:List Int):Prop where
  hS:S=absN H q [] (fuL N)
  hq:q≤n / 16
variable {q:Nat} {S:List Int} {k_6:dPvE_c k_5 q S}
abbrev dPvE (_:dPvE_c k_5 q S):FS:=⟨false,37,[(2,.pointer (some ⟨1,0,none⟩)),(4,.pointer (some ⟨2,0,none⟩)),(5,.pointer (some ⟨3,0,none⟩)),(6,.slice (some ⟨4,0,none⟩) n cap),(7,.int .i64 ((16*q:Nat):Int))],[(a,t),((wA .u8 16 H),(22,(0,0))),((wA .u8 16 []),(22,(0,0))),((wA .u8 16 S),(22,(0,0))),((wA .u8 cap (fuL N)),(5,(0,0)))]⟩
theorem dPv3:dPvA_R [1,1,1,0,0] (dPvD k_5) .normal (fun z_=>∃(k_6:dPvE_c k_5 0 ([]:List Int)),z_=dPvE k_6):=by
  have⟨hH,hN,hb,hbN,hl⟩:=id k_4
  have⟨hn,hc,h16,hnl⟩:=id k_5
  exact rn_ev (yty.enf (pdd :: []) 1) dPvA_h mixed _ none [] [] 1 (fun j M=>by kernel_rfl) A0 ⟨⟨rfl,by omega⟩,rfl⟩
structure dPvF_c (_:dPvE_c k_5 q S):Prop where
  hq1:q<n / 16
variable {k_7:dPvF_c k_6}
abbrev dPvF (_:dPvF_c k_6):FS:=⟨false,37,[(2,.pointer (some ⟨1,0,none⟩)),(4,.pointer (some ⟨2,0,none⟩)),(5,.pointer (some ⟨3,0,none⟩)),(6,.slice (some ⟨4,0,none⟩) n cap),(7,.int .i64 ((16*q:Nat):Int))],[(a,t),((wA .u8 16 H),(22,(0,0))),((wA .u8 16 []),(22,(0,0))),((wA .u8 16 S),(22,(0,0))),((wA .u8 cap (fuL N)),(5,(0,0)))]⟩
theorem dPv4 (hlt:q<n / 16):dPvA_R [1,1,1,0,1,0,0,0] (dPvE k_6) .normal (fun z_=>∃(k_7:dPvF_c k_6),z_=dPvF k_7):=by
  have⟨hH,hN,hb,hbN,hl⟩:=id k_4
  have⟨hn,hc,h16,hnl⟩:=id k_5
  have⟨hS,hq⟩:=id k_6
  exact rn_ev (yty.enf (pdd :: []) 1) dPvA_h mixed _ none [some (.bool true)] [(7,(decide (((16*q:Nat):Int)<((n:Nat):Int)))=true)] 0 (fun j M=>by kernel_rfl) (A1 (decide_eq_true (by omega)) A0) ⟨⟨hlt⟩,rfl⟩
structure dPvG_c (_:dPvF_c k_6) (k:Nat):Prop where
  hk:k≤16
variable {k_8:dPvG_c k_7 k}
abbrev dPvG (_:dPvG_c k_7 k):FS:=⟨false,37,[(2,.pointer (some ⟨1,0,none⟩)),(4,.pointer (some ⟨2,0,none⟩)),(5,.pointer (some ⟨3,0,none⟩)),(6,.slice (some ⟨4,0,none⟩) n cap),(7,.int .i64 ((16*q:Nat):Int)),(8,.int .i64 ((k:Nat):Int))],[(a,t),((wA .u8 16 H),(22,(0,0))),((wA .u8 16 []),(22,(0,0))),((wA .u8 16 (xrv S ((fuL N).drop (16*q)) k)),(22,(0,0))),((wA .u8 cap (fuL N)),(5,(0,0)))]⟩
theorem dPv5:dPvA_R [1,1,1,0,1,0,0,1,0,0,0,0] (dPvF k_7) .normal (fun z_=>∃(k_8:dPvG_c k_7 0),z_=dPvG k_8):=by
  have⟨hH,hN,hb,hbN,hl⟩:=id k_4
  have⟨hn,hc,h16,hnl⟩:=id k_5
  have⟨hS,hq⟩:=id k_6
  have⟨hq1⟩:=id k_7
  exact rn_ev (yty.enf (pdd :: []) 1) dPvA_h mixed (⟨false,37,[(2,.pointer (some ⟨1,0,none⟩)),(4,.pointer (some ⟨2,0,none⟩)),(5,.pointer (some ⟨3,0,none⟩)),(6,.slice (some ⟨4,0,none⟩) n cap),(7,.int .i64 ((16*q:Nat):Int)),(8,.int .i64 0)],[(a,t),((wA .u8 16 H),(22,(0,0))),((wA .u8 16 []),(22,(0,0))),((wA .u8 16 S),(22,(0,0))),((wA .u8 cap (fuL N)),(5,(0,0)))]⟩) none [] [] 1 (fun j M=>by kernel_rfl) A0 ⟨⟨by omega⟩,(by
    delta dPvG
    rw[xrv_0 S ((fuL N).drop (16*q))]
    try kernel_rfl)⟩
theorem dPv6 (hlt:k<16):dPvA_R [1,1,1,0,1,0,0,1,0,0,0,1,0,0] (dPvG k_8) .normal (fun z_=>∃(k_8:dPvG_c k_7 (k+1)),z_=dPvG k_8):=by
  have⟨hH,hN,hb,hbN,hl⟩:=id k_4
  have⟨hn,hc,h16,hnl⟩:=id k_5
  have⟨hS,hq⟩:=id k_6
  have⟨hq1⟩:=id k_7
  have⟨hk⟩:=id k_8
  exact rn_ev (yty.enf (pdd :: []) 1) dPvA_h mixed _ none [some (.bool true),some (.int .u8 ((xrv S ((fuL N).drop (16*q)) k).getD k 0)),some (.int .i64 ((16*q+k:Nat):Int)),some (.int .u8 ((fuL N).getD (16*q+k) 0)),none,some (.agg (wA .u8 16 (xrv S ((fuL N).drop (16*q)) (k+1)))),some (.int .i64 ((k+1:Nat):Int))] [(3,(decide (((k:Nat):Int)<16))=true),(4,(0≤((k:Nat):Int)∧((k:Nat):Int)<((16:Nat):Int))),(0,(((wA .u8 16 (xrv S ((fuL N).drop (16*q)) k))[(0+Int.toNat ((k:Nat):Int)*1)]? =some (.int .u8 ((xrv S ((fuL N).drop (16*q)) k).getD k 0)))∧((xrv S ((fuL N).drop (16*q)) k).getD k 0)=((xrv S ((fuL N).drop (16*q)) k).getD k 0))),(7,(IntKind.i64.wrap (((16*q:Nat):Int)+((k:Nat):Int)))=((16*q+k:Nat):Int)),(0,((0:Int)≤((16*q+k:Nat):Int)∧(((16*q+k:Nat):Int):Int)<((n:Nat):Int))),(0,(((wA .u8 cap (fuL N))[(0+Int.toNat ((16*q+k:Nat):Int)*1)]? =some (.int .u8 ((fuL N).getD (16*q+k) 0)))∧((fuL N).getD (16*q+k) 0)=((fuL N).getD (16*q+k) 0))),(2,(0≤((k:Nat):Int)∧((k:Nat):Int)<((16:Nat):Int))),(0,((0+Int.toNat ((k:Nat):Int)*1)<(wA .u8 16 (xrv S ((fuL N).drop (16*q)) k)).size∧(wA .u8 16 (xrv S ((fuL N).drop (16*q)) k)).setIfInBounds (0+Int.toNat ((k:Nat):Int)*1) (.int .u8 (bits .xor .u8 ((xrv S ((fuL N).drop (16*q)) k).getD k 0) ((fuL N).getD (16*q+k) 0)))=(wA .u8 16 (xrv S ((fuL N).drop (16*q)) (k+1))))),(3,(IntKind.i64.wrap (((k:Nat):Int)+1))=((k+1:Nat):Int))] 1 (fun j M=>by kernel_rfl) (A1 (decide_eq_true (by omega)) (A1 (by(try simp only[Int.toNat_natCast,wA_size]);omega) (A1 ⟨(wA_get (by omega) (by omega)),rfl⟩ (A1 (wi64 (by omega)) (A1 (by(try simp only[Int.toNat_natCast,wA_size]);omega) (A1 ⟨(wA_get (by omega) (by omega)),rfl⟩ (A1 (by(try simp only[Int.toNat_natCast,wA_size]);omega) (A1 ⟨by rw[wA_size];omega,by rw[wA_putE (p:=k) (by omega) (by omega),← xrv_step hlt rfl,drop_at]⟩ (A1 (wi64 (by omega)) A0))))))))) ⟨⟨by omega⟩,rfl⟩
structure dPvH_c (_:dPvF_c k_6) (k:Nat):Prop where
variable {k_9:dPvH_c k_7 k}
abbrev dPvH (_:dPvH_c k_7 k):FS:=⟨false,37,[(2,.pointer (some ⟨1,0,none⟩)),(4,.pointer (some ⟨2,0,none⟩)),(5,.pointer (some ⟨3,0,none⟩)),(6,.slice (some ⟨4,0,none⟩) n cap),(7,.int .i64 ((16*q:Nat):Int))],[(a,t),((wA .u8 16 H),(22,(0,0))),((wA .u8 16 []),(22,(0,0))),((wA .u8 16 (xr S ((fuL N).drop (16*q)))),(22,(0,0))),((wA .u8 cap (fuL N)),(5,(0,0)))]⟩
theorem dPv7 (hge:¬ k<16):dPvA_R [1,1,1,0,1,0,0,1,0,0,0,1,0,0] (dPvG k_8) (.exit 2) (fun z_=>∃(k_9:dPvH_c k_7 k),z_=dPvH k_9):=by
  have⟨hH,hN,hb,hbN,hl⟩:=id k_4
  have⟨hn,hc,h16,hnl⟩:=id k_5
  have⟨hS,hq⟩:=id k_6
  have⟨hq1⟩:=id k_7
  have⟨hk⟩:=id k_8
  exact rn_ev (yty.enf (pdd :: []) 1) dPvA_h mixed (⟨false,37,[(2,.pointer (some ⟨1,0,none⟩)),(4,.pointer (some ⟨2,0,none⟩)),(5,.pointer (some ⟨3,0,none⟩)),(6,.slice (some ⟨4,0,none⟩) n cap),(7,.int .i64 ((16*q:Nat):Int))],[(a,t),((wA .u8 16 H),(22,(0,0))),((wA .u8 16 []),(22,(0,0))),((wA .u8 16 (xrv S ((fuL N).drop (16*q)) k)),(22,(0,0))),((wA .u8 cap (fuL N)),(5,(0,0)))]⟩) none [some (.bool false)] [(3,(decide (((k:Nat):Int)<16))=false)] 0 (fun j M=>by kernel_rfl) (A1 (decide_eq_false (by omega)) A0) ⟨⟨⟩,(by
    delta dPvH
    rw[show k=16 by omega,xrv_xr]
    try kernel_rfl)⟩
theorem dPv8:dPvA_R [1,1,1,0,1,0,0,1,0,0,0,1] (dPvG k_8) .normal (fun z_=>∃(k:Nat) (k_9:dPvH_c k_7 k),z_=dPvH k_9):=by
  refine rn_loop (k:=2) (w:= [1,1,1,0,1,0,0,1,0,0,0,1]) (by kernel_rfl) (fun n_ z_=>∃(k:Nat) (k_8:dPvG_c k_7 k),n_=16 - k∧z_=dPvG k_8) _ ⟨_,k_8,rfl,rfl⟩ ?_
  rintro n_ _ ⟨k,k_8,hn_,rfl⟩
  have⟨hH,hN,hb,hbN,hl⟩:=k_4
  have⟨hn,hc,h16,hnl⟩:=k_5
  have⟨hS,hq⟩:=k_6
  have⟨hq1⟩:=k_7
  have⟨hk⟩:=k_8
  by_cases hlt:k<16
  · exact(dPv6 hlt).x fun _ ⟨k_8,e_⟩=> .inl ⟨rfl,16 - (k+1),by omega,⟨_,k_8,rfl,e_⟩⟩
  · exact(dPv7 hlt).x fun _ ⟨k_9,e_⟩=> .inr ⟨rfl,⟨k,k_9,e_⟩⟩
theorem dPv9:dPvA_R [1,1,1,0,1,0,0,1,0,0,0] (dPvF k_7) .normal (fun z_=>∃(k1:Nat) (k_9:dPvH_c k_7 k1),z_=dPvH k_9):=by
  refine rn_seq (w:= [1,1,1,0,1,0,0,1,0,0,0]) (by kernel_rfl) dPv5 ?_
  rintro _ ⟨k_8,rfl⟩
  exact dPv8
structure dPvI_c (_:dPvH_c k_7 k) (V:List Int):Prop where
  hV:V=absN H (q+1) [] (fuL N)
variable {V:List Int} {k_10:dPvI_c k_9 V}
abbrev dPvI (_:dPvI_c k_9 V):FS:=⟨false,37,[(2,.pointer (some ⟨1,0,none⟩)),(4,.pointer (some ⟨2,0,none⟩)),(5,.pointer (some ⟨3,0,none⟩)),(6,.slice (some ⟨4,0,none⟩) n cap),(7,.int .i64 ((16*q:Nat):Int))],[(a,t),((wA .u8 16 H),(22,(0,0))),((wA .u8 16 []),(22,(0,0))),((wA .u8 16 V),(22,(0,0))),((wA .u8 cap (fuL N)),(5,(0,0)))]⟩
theorem dPv0a:dPvA_R [1,1,1,0,1,0,0,1,0,0,1] (dPvH k_9) .normal (fun z_=>∃(k_10:dPvI_c k_9 (dotL (dL8 (wA .u8 16 (xr S ((fuL N).drop (16*q))))) (dL8 (wA .u8 16 H)))),z_=dPvI k_10):=by
  have⟨hH,hN,hb,hbN,hl⟩:=id k_4
  have⟨hS,hq⟩:=id k_6
  exact rn_ev (yty.enf (pdd :: []) 1) dPvA_h mixed _ none [] [(4,(((wA .u8 16 (xr S ((fuL N).drop (16*q))))=wA .u8 16 (dL8 (wA .u8 16 (xr S ((fuL N).drop (16*q)))))∧By (dL8 (wA .u8 16 (xr S ((fuL N).drop (16*q))))))∧((wA .u8 16 H)=wA .u8 16 (dL8 (wA .u8 16 H))∧By (dL8 (wA .u8 16 H))))),(0,((wA .u8 16 (dotL (dL8 (wA .u8 16 (xr S ((fuL N).drop (16*q))))) (dL8 (wA .u8 16 H)))).all (fun v=>v.oneCell')=true))] 0 (fun j M=>by kernel_rfl) (A1 ⟨dq (xr_by _ _),dq hH⟩ (A1 (wA_one _ _ _) A0)) ⟨⟨by rw[dotL_w1,dotL_w2,hS];exact(absN_end _ _ _ _).symm⟩,rfl⟩
theorem dPv0b:dPvA_R [1,1,1,0,1,0,0,1,0,0] (dPvF k_7) .normal (fun z_=>∃(k10:Nat) (k_9:dPvH_c k_7 k10) (k_10:dPvI_c k_9 (dotL (dL8 (wA .u8 16 (xr S ((fuL N).drop (16*q))))) (dL8 (wA .u8 16 H)))),z_=dPvI k_10):=by
  refine rn_seq (w:= [1,1,1,0,1,0,0,1,0,0]) (by kernel_rfl) dPv9 ?_
  rintro _ ⟨k10,k_9,rfl⟩
  exact(dPv0a).mono fun _ ⟨k_10,e_⟩=>⟨k10,k_9,k_10,e_⟩
theorem dPv0c:dPvA_R [1,1,1,0,1,0,0,1,0] (dPvF k_7) .normal (fun z_=>∃(k10:Nat) (k_9:dPvH_c k_7 k10) (k_10:dPvI_c k_9 (dotL (dL8 (wA .u8 16 (xr S ((fuL N).drop (16*q))))) (dL8 (wA .u8 16 H)))),z_=dPvI k_10):=by
  exact rn_block (k:=1) (w:= [1,1,1,0,1,0,0,1,0]) (by kernel_rfl) dPv0b
theorem dPv0d:dPvA_R [1,1,1,0,1,0,0,1,1] (dPvI k_10) .normal (fun z_=>∃(k_6:dPvE_c k_5 (q+1) V),z_=dPvE k_6):=by
  have⟨hH,hN,hb,hbN,hl⟩:=id k_4
  have⟨hn,hc,h16,hnl⟩:=id k_5
  have⟨hS,hq⟩:=id k_6
  have⟨hq1⟩:=id k_7
  have⟨hV⟩:=id k_10
  exact rn_ev (yty.enf (pdd :: []) 1) dPvA_h mixed _ none [some (.int .i64 ((16*q+16:Nat):Int))] [(3,(IntKind.i64.wrap (((16*q:Nat):Int)+16))=((16*q+16:Nat):Int))] 1 (fun j M=>by kernel_rfl) (A1 (wi64 (by omega)) A0) ⟨⟨hV,by omega⟩,rfl⟩
theorem dPv0e:dPvA_R [1,1,1,0,1,0,0,1] (dPvF k_7) .normal (fun z_=>∃(k100:Nat) (k_6:dPvE_c k_5 (q+1) (dotL (dL8 (wA .u8 16 (xr S ((fuL N).drop (16*q))))) (dL8 (wA .u8 16 H)))),z_=dPvE k_6):=by
  refine rn_seq (w:= [1,1,1,0,1,0,0,1]) (by kernel_rfl) dPv0c ?_
  rintro _ ⟨k100,k_9,k_10,rfl⟩
  exact(dPv0d).mono fun _ ⟨k_6,e_⟩=>⟨k100,k_6,e_⟩
theorem dPv0f (hlt:q<n / 16):dPvA_R [1,1,1,0,1,0,0] (dPvE k_6) .normal (fun z_=>∃(k1001:Nat) (k_6:dPvE_c k_5 (q+1) (dotL (dL8 (wA .u8 16 (xr S ((fuL N).drop (16*q))))) (dL8 (wA .u8 16 H)))),z_=dPvE k_6):=by
  refine rn_seq (w:= [1,1,1,0,1,0,0]) (by kernel_rfl) (dPv4 hlt) ?_
  rintro _ ⟨k_7,rfl⟩
  exact dPv0e
structure dPvJ_c (a:Array Value) (t:Tq) (H N:List Int) (bp:Option Addr) (l cp n cap q:Nat) (S:List Int):Prop where
  hE:S=absN H ((fuL N).length / 16) [] (fuL N)
variable {k_11:dPvJ_c a t H N bp l cp n cap q S}
abbrev dPvJ (_:dPvJ_c a t H N bp l cp n cap q S):FS:=⟨false,37,[(2,.pointer (some ⟨1,0,none⟩)),(4,.pointer (some ⟨2,0,none⟩)),(5,.pointer (some ⟨3,0,none⟩)),(6,.slice (some ⟨4,0,none⟩) n cap)],[(a,t),((wA .u8 16 H),(22,(0,0))),((wA .u8 16 []),(22,(0,0))),((wA .u8 16 S),(22,(0,0))),((wA .u8 cap (fuL N)),(5,(0,0)))]⟩
theorem dPv0g (hge:¬ q<n / 16):dPvA_R [1,1,1,0,1,0,0] (dPvE k_6) (.exit 0) (fun z_=>∃(k_11:dPvJ_c a t H N bp l cp n cap q S),z_=dPvJ k_11):=by
  have⟨hH,hN,hb,hbN,hl⟩:=id k_4
  have⟨hn,hc,h16,hnl⟩:=id k_5
  have⟨hS,hq⟩:=id k_6
  exact rn_ev (yty.enf (pdd :: []) 1) dPvA_h mixed _ none [some (.bool false)] [(7,(decide (((16*q:Nat):Int)<((n:Nat):Int)))=false)] 0 (fun j M=>by kernel_rfl) (A1 (decide_eq_false (by omega)) A0) ⟨⟨by rw[hS,show q=(fuL N).length / 16 by omega]⟩,rfl⟩
theorem dPv0h:dPvA_R [1,1,1,0,1] (dPvE k_6) .normal (fun z_=>∃(q:Nat) (S:List Int) (k_11:dPvJ_c a t H N bp l cp n cap q S),z_=dPvJ k_11):=by
  refine rn_loop (k:=0) (w:= [1,1,1,0,1]) (by kernel_rfl) (fun n_ z_=>∃(q:Nat) (S:List Int) (k_6:dPvE_c k_5 q S),n_=n / 16 - q∧z_=dPvE k_6) _ ⟨_,_,k_6,rfl,rfl⟩ ?_
  rintro n_ _ ⟨q,S,k_6,hn_,rfl⟩
  have⟨hH,hN,hb,hbN,hl⟩:=k_4
  have⟨hn,hc,h16,hnl⟩:=k_5
  have⟨hS,hq⟩:=k_6
  by_cases hlt:q<n / 16
  · exact(dPv0f hlt).x fun _ ⟨k1001_,k_6,e_⟩=> .inl ⟨rfl,n / 16 - (q+1),by omega,⟨_,_,k_6,rfl,e_⟩⟩
  · exact(dPv0g hlt).x fun _ ⟨k_11,e_⟩=> .inr ⟨rfl,⟨q,S,k_11,e_⟩⟩
theorem dPv0i:dPvA_R [1,1,1,0] (dPvD k_5) .normal (fun z_=>∃(q1:Nat) (S1:List Int) (k_11:dPvJ_c a t H N bp l cp n cap q1 S1),z_=dPvJ k_11):=by
  refine rn_seq (w:= [1,1,1,0]) (by kernel_rfl) dPv3 ?_
  rintro _ ⟨k_6,rfl⟩
  exact dPv0h
abbrev dPvK (_:dPvJ_c a t H N bp l cp n cap q S):FS:=⟨false,37,[(4,.pointer (some ⟨2,0,none⟩))],[(a,t),((wA .u8 16 H),(22,(0,0))),((wA .u8 16 S),(22,(0,0))),((wA .u8 16 S),(22,(0,0))),((wA .u8 cap (fuL N)),(5,(0,0)))]⟩
theorem dPv0j:dPvA_R [1,1,1,1] (dPvJ k_11) .ret (fun z_=>z_=dPvK k_11):=by
  exact rn_ev (yty.enf (pdd :: []) 1) dPvA_h mixed _ none [] [(2,((wA .u8 16 S).all (fun v=>v.oneCell')=true))] 0 (fun j M=>by kernel_rfl) (A1 (wA_one _ _ _) A0) rfl
theorem dPvu':dPvA_R [] (dPvA k_4) .ret (fun z_=>∃(k12 q13:Nat) (S13:List Int) (k_11:dPvJ_c a t H N bp l cp ((fuL N).length) k12 q13 S13),z_=dPvK k_11):=by
  refine rn_seq (w:= []) (by kernel_rfl) dPv0 ?_
  rintro _ rfl
  refine rn_seq (w:= [1]) (by kernel_rfl) dPv1 ?_
  rintro _ rfl
  refine rn_seq (w:= [1,1]) (by kernel_rfl) dPv2 ?_
  rintro _ ⟨k12,k_5,rfl⟩
  refine rn_seq (w:= [1,1,1]) (by kernel_rfl) dPv0i ?_
  rintro _ ⟨q13,S13,k_11,rfl⟩
  exact(dPv0j).mono fun _ e_=>⟨k12,q13,S13,k_11,e_⟩
abbrev dPvA_s (a:Array Value) (t:Tq) (H N:List Int) (bp:Option Addr) (l cp:Nat) (j:Nat→Value):List Value:=([.agg (wA .u8 16 H),.slice bp l cp] ++ (JU 35))
abbrev dPvA_m (a:Array Value) (t:Tq) (H N:List Int) (bp:Option Addr) (l cp:Nat):List Mb:= [(a,t)]
abbrev dPvK_s (a:Array Value) (t:Tq) (H N:List Int) (bp:Option Addr) (l cp:Nat) (n cap:Nat) (q:Nat) (S:List Int) (j:Nat→Value):List Value:=(J j 0 4 ++ ([.pointer (some ⟨2,0,none⟩)] ++ (J j 5 32)))
abbrev dPvK_m (a:Array Value) (t:Tq) (H N:List Int) (bp:Option Addr) (l cp:Nat) (n cap:Nat) (q:Nat) (S:List Int):List Mb:= [(a,t),((wA .u8 16 H),(22,(0,0))),((wA .u8 16 S),(22,(0,0))),((wA .u8 16 S),(22,(0,0))),((wA .u8 cap (fuL N)),(5,(0,0)))]
theorem dPvu (a:Array Value) (t:Tq) (H N:List Int) (bp:Option Addr) (l cp:Nat) (j:Nat→Value) (hH:By H) (hN:By N) (hb:Bk a bp l cp) (hbN:bO a bp l=N) (hl:l≤1000000)  {c0:Prop} {ch0:List (Option Value)}:Runs Try.prog (cAt [] (bdy Try.f17)) ⟨dPvA_s a t H N bp l cp j,dPvA_m a t H N bp l cp,c0,ch0⟩ (fun e s=>e= .ret∧∃(k12:Nat) (q13:Nat) (S13:List Int) (j:Nat→Value) (c:Prop) (ch:List (Option Value)),(S13=absN H ((fuL N).length / 16) [] (fuL N))∧s=⟨dPvK_s a t H N bp l cp ((fuL N).length) k12 q13 S13 j,dPvK_m a t H N bp l cp ((fuL N).length) k12 q13 S13,c,ch⟩) 1:=by
  refine(Rn.old (dPvu' (k_4:=(⟨hH,hN,hb,hbN,hl⟩:dPvA_c a t H N bp l cp))) j (by kernel_rfl)).mono ?_
  rintro e s ⟨rfl,_,⟨k12,q13,S13,k_11,rfl⟩,j,c,ch,rfl⟩
  have⟨x_hE⟩:=k_11
  exact⟨rfl,k12,q13,S13,j,c,ch,x_hE,by kernel_rfl⟩
theorem dPv_c (a:Array Value) (t:Tq) (H:List Int) (bp:Option Addr) (l cp:Nat) (hH:By H) (hb:Bk a bp l cp) (hN:By (bO a bp l)) (hl:l≤1000000):Reads Try.prog 17 [(a,t)] [.agg (wA .u8 16 H),.slice bp l cp] (.agg (wA .u8 16 (absL H [] (bO a bp l)))):=by
  have ha: [Value.agg (wA .u8 16 H),.slice bp l cp].all (okp (1%big))=true:=by
    obtain⟨_,⟨rfl,rfl,_⟩|⟨p,rfl,_,_⟩⟩:=hb<;>kernel_rfl
  refine reads_runs (fk:=1) (yty.enf (pdd :: []) 1) Try.func17 (c:=bdy Try.f17) (by kernel_rfl) ⟨by rfl,by decide⟩ (args:= [.agg (wA .u8 16 H),.slice bp l cp]) ha (K:=fun e s=>e= .ret∧resS (yty.enf (pdd :: []) 1) s Try.f17.results.toList=some [.agg (wA .u8 16 (absL H [] (bO a bp l)))]) ?_ (fun e s h=>⟨h.1,_,h.2,rfl⟩)
  refine(dPvu a t H (bO a bp l) bp l cp (fun _=>undef) hH hN hb rfl hl).mono ?_
  rintro e s ⟨rfl,k1,q,S,j,c,ch,hE,rfl⟩
  rw[← absL_full,← hE]
  exact⟨rfl,by kernel_rfl⟩
end Go.Proofs.Ythldpfindbhkeaa
