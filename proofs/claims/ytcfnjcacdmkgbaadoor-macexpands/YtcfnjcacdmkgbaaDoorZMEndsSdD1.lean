import Derived.Test.YtcfnjcacdmkgbaaDoorZMEndsSdB1
import Derived.Test.YtcfnjcacdmkgbaaDoorZMEndsSdM1
set_option linter.unusedSimpArgs false
set_option linter.unusedVariables false
/-! The document's SHA-2: the sum. -/
namespace Go.Proofs.YtcfnjcacdmkgbaaDoor
open Go.RowKit Go.Ev
variable {c0:Prop} {ch0:List (Option Value)}
def ds2A_h (i:Nat):Hn:=if i=6 then⟨8,[],[],[],[]⟩ else if i=21 then⟨30,[],[],[],[]⟩ else if i=29 then⟨24,[],[],[],[]⟩ else if i=40 then⟨11,[],[],[],[]⟩ else⟨0,[],[],[],[]⟩
abbrev ds2A_R (w:List Nat) (S:FS) (e:Exit) (K:FS→Prop):Prop:=Rn Tryd.prog (cAt w (bdy Tryd.f32)) S e K 1
structure ds2A_c (a:Array Value) (t:Tq) (bp:Option Addr) (l cp:Nat) (N:List Int):Prop where
  hu:SrcOk .u8 [(a,t)] (.slice bp l cp) N
  hN:N.length=l
  hl:l≤1000000000
variable {a:Array Value} {t:Tq} {bp:Option Addr} {l cp:Nat} {N:List Int} {k_1:ds2A_c a t bp l cp N}
abbrev ds2A (_:ds2A_c a t bp l cp N):FS:=⟨true,235,[(0,.agg (wA .i64 14 [32,64,2,13,22,6,11,25,7,18,3,17,19,10])),(1,.slice bp l cp)],[(a,t)]⟩
abbrev ds2B (_:ds2A_c a t bp l cp N):FS:=⟨false,235,[(1,.slice bp l cp),(2,.pointer (some ⟨1,0,none⟩))],[(a,t),((wA .i64 14 [32,64,2,13,22,6,11,25,7,18,3,17,19,10]),(50,(0,0)))]⟩
theorem ds20:ds2A_R [0] (ds2A k_1) .normal (fun z_=>z_=ds2B k_1):=rn_ev (yty.enf tabD2 1) ds2A_h mixed _ none [] [] 1 (fun j M=>by kernel_rfl) A0 rfl
abbrev ds2C (_:ds2A_c a t bp l cp N):FS:=⟨false,235,[(1,.slice bp l cp),(2,.pointer (some ⟨1,0,none⟩)),(5,.int .i64 4)],[(a,t),((wA .i64 14 [32,64,2,13,22,6,11,25,7,18,3,17,19,10]),(50,(0,0)))]⟩
theorem ds21:ds2A_R [1,0] (ds2B k_1) .normal (fun z_=>z_=ds2C k_1):=rn_ev (yty.enf tabD2 1) ds2A_h mixed _ none [] [(4,((8:Int)≠0))] 1 (fun j M=>by kernel_rfl) (A1 (by decide) A0) rfl
abbrev ds2D (_:ds2A_c a t bp l cp N):FS:=⟨false,235,[(1,.slice bp l cp),(2,.pointer (some ⟨1,0,none⟩)),(5,.int .i64 4),(6,.pointer (some ⟨2,0,none⟩))],[(a,t),((wA .i64 14 [32,64,2,13,22,6,11,25,7,18,3,17,19,10]),(50,(0,0))),((wA .u64 8 []),(59,(0,0)))]⟩
theorem ds22:ds2A_R [1,1,0] (ds2C k_1) .normal (fun z_=>z_=ds2D k_1):=rn_ev (yty.enf tabD2 1) ds2A_h mixed _ none [] [] 0 (fun j M=>by kernel_rfl) A0 rfl
abbrev ds2E (_:ds2A_c a t bp l cp N):FS:=⟨false,235,[(1,.slice bp l cp),(2,.pointer (some ⟨1,0,none⟩)),(5,.int .i64 4),(6,.pointer (some ⟨2,0,none⟩))],[(a,t),((wA .i64 14 [32,64,2,13,22,6,11,25,7,18,3,17,19,10]),(50,(0,0))),((wA .u64 8 [sD2.a,sD2.b,sD2.c,sD2.d,sD2.e,sD2.f,sD2.g,sD2.h]),(59,(0,0)))]⟩
set_option maxRecDepth 100000 in
theorem ds23:ds2A_R [1,1,1,0] (ds2D k_1) .normal (fun z_=>z_=ds2E k_1):=by
  have⟨hu,hN,hl⟩:=id k_1
  exact rn_ev (yty.enf tabD2 1) ds2A_h mixed _ none [none,none,none,none,some (.agg (wA .u64 8 [((bg5.getD 0 0) / 2 ^ (32)),0,0,0,0,0,0,0])),none,none,none,none,none,some (.agg (wA .u64 8 [((bg5.getD 0 0) / 2 ^ (32)),((bg5.getD 1 0) / 2 ^ (32)),0,0,0,0,0,0])),none,none,none,none,none,some (.agg (wA .u64 8 [((bg5.getD 0 0) / 2 ^ (32)),((bg5.getD 1 0) / 2 ^ (32)),((bg5.getD 2 0) / 2 ^ (32)),0,0,0,0,0])),none,none,none,none,none,some (.agg (wA .u64 8 [((bg5.getD 0 0) / 2 ^ (32)),((bg5.getD 1 0) / 2 ^ (32)),((bg5.getD 2 0) / 2 ^ (32)),((bg5.getD 3 0) / 2 ^ (32)),0,0,0,0])),none,none,none,none,none,some (.agg (wA .u64 8 [((bg5.getD 0 0) / 2 ^ (32)),((bg5.getD 1 0) / 2 ^ (32)),((bg5.getD 2 0) / 2 ^ (32)),((bg5.getD 3 0) / 2 ^ (32)),((bg5.getD 4 0) / 2 ^ (32)),0,0,0])),none,none,none,none,none,some (.agg (wA .u64 8 [((bg5.getD 0 0) / 2 ^ (32)),((bg5.getD 1 0) / 2 ^ (32)),((bg5.getD 2 0) / 2 ^ (32)),((bg5.getD 3 0) / 2 ^ (32)),((bg5.getD 4 0) / 2 ^ (32)),((bg5.getD 5 0) / 2 ^ (32)),0,0])),none,none,none,none,none,some (.agg (wA .u64 8 [((bg5.getD 0 0) / 2 ^ (32)),((bg5.getD 1 0) / 2 ^ (32)),((bg5.getD 2 0) / 2 ^ (32)),((bg5.getD 3 0) / 2 ^ (32)),((bg5.getD 4 0) / 2 ^ (32)),((bg5.getD 5 0) / 2 ^ (32)),((bg5.getD 6 0) / 2 ^ (32)),0])),none,none,none,none,none,some (.agg (wA .u64 8 [((bg5.getD 0 0) / 2 ^ (32)),((bg5.getD 1 0) / 2 ^ (32)),((bg5.getD 2 0) / 2 ^ (32)),((bg5.getD 3 0) / 2 ^ (32)),((bg5.getD 4 0) / 2 ^ (32)),((bg5.getD 5 0) / 2 ^ (32)),((bg5.getD 6 0) / 2 ^ (32)),((bg5.getD 7 0) / 2 ^ (32))]))] [(10,((0:Int)≤0∧(0:Int)<8)),(6,((0:Int)≤32)),(0,bdN 0 8),(0,(0<(wA .u64 8 []).size∧(wA .u64 8 []).setIfInBounds (0) (.int .u64 ((bg5.getD 0 0) / 2 ^ (32)))=(wA .u64 8 [((bg5.getD 0 0) / 2 ^ (32)),0,0,0,0,0,0,0]))),(14,((0:Int)≤1∧(1:Int)<8)),(6,((0:Int)≤32)),(0,bdN 1 8),(0,(1<(wA .u64 8 [((bg5.getD 0 0) / 2 ^ (32)),0,0,0,0,0,0,0]).size∧(wA .u64 8 [((bg5.getD 0 0) / 2 ^ (32)),0,0,0,0,0,0,0]).setIfInBounds (1) (.int .u64 ((bg5.getD 1 0) / 2 ^ (32)))=(wA .u64 8 [((bg5.getD 0 0) / 2 ^ (32)),((bg5.getD 1 0) / 2 ^ (32)),0,0,0,0,0,0]))),(14,((0:Int)≤2∧(2:Int)<8)),(6,((0:Int)≤32)),(0,bdN 2 8),(0,(2<(wA .u64 8 [((bg5.getD 0 0) / 2 ^ (32)),((bg5.getD 1 0) / 2 ^ (32)),0,0,0,0,0,0]).size∧(wA .u64 8 [((bg5.getD 0 0) / 2 ^ (32)),((bg5.getD 1 0) / 2 ^ (32)),0,0,0,0,0,0]).setIfInBounds (2) (.int .u64 ((bg5.getD 2 0) / 2 ^ (32)))=(wA .u64 8 [((bg5.getD 0 0) / 2 ^ (32)),((bg5.getD 1 0) / 2 ^ (32)),((bg5.getD 2 0) / 2 ^ (32)),0,0,0,0,0]))),(14,((0:Int)≤3∧(3:Int)<8)),(6,((0:Int)≤32)),(0,bdN 3 8),(0,(3<(wA .u64 8 [((bg5.getD 0 0) / 2 ^ (32)),((bg5.getD 1 0) / 2 ^ (32)),((bg5.getD 2 0) / 2 ^ (32)),0,0,0,0,0]).size∧(wA .u64 8 [((bg5.getD 0 0) / 2 ^ (32)),((bg5.getD 1 0) / 2 ^ (32)),((bg5.getD 2 0) / 2 ^ (32)),0,0,0,0,0]).setIfInBounds (3) (.int .u64 ((bg5.getD 3 0) / 2 ^ (32)))=(wA .u64 8 [((bg5.getD 0 0) / 2 ^ (32)),((bg5.getD 1 0) / 2 ^ (32)),((bg5.getD 2 0) / 2 ^ (32)),((bg5.getD 3 0) / 2 ^ (32)),0,0,0,0]))),(14,((0:Int)≤4∧(4:Int)<8)),(6,((0:Int)≤32)),(0,bdN 4 8),(0,(4<(wA .u64 8 [((bg5.getD 0 0) / 2 ^ (32)),((bg5.getD 1 0) / 2 ^ (32)),((bg5.getD 2 0) / 2 ^ (32)),((bg5.getD 3 0) / 2 ^ (32)),0,0,0,0]).size∧(wA .u64 8 [((bg5.getD 0 0) / 2 ^ (32)),((bg5.getD 1 0) / 2 ^ (32)),((bg5.getD 2 0) / 2 ^ (32)),((bg5.getD 3 0) / 2 ^ (32)),0,0,0,0]).setIfInBounds (4) (.int .u64 ((bg5.getD 4 0) / 2 ^ (32)))=(wA .u64 8 [((bg5.getD 0 0) / 2 ^ (32)),((bg5.getD 1 0) / 2 ^ (32)),((bg5.getD 2 0) / 2 ^ (32)),((bg5.getD 3 0) / 2 ^ (32)),((bg5.getD 4 0) / 2 ^ (32)),0,0,0]))),(14,((0:Int)≤5∧(5:Int)<8)),(6,((0:Int)≤32)),(0,bdN 5 8),(0,(5<(wA .u64 8 [((bg5.getD 0 0) / 2 ^ (32)),((bg5.getD 1 0) / 2 ^ (32)),((bg5.getD 2 0) / 2 ^ (32)),((bg5.getD 3 0) / 2 ^ (32)),((bg5.getD 4 0) / 2 ^ (32)),0,0,0]).size∧(wA .u64 8 [((bg5.getD 0 0) / 2 ^ (32)),((bg5.getD 1 0) / 2 ^ (32)),((bg5.getD 2 0) / 2 ^ (32)),((bg5.getD 3 0) / 2 ^ (32)),((bg5.getD 4 0) / 2 ^ (32)),0,0,0]).setIfInBounds (5) (.int .u64 ((bg5.getD 5 0) / 2 ^ (32)))=(wA .u64 8 [((bg5.getD 0 0) / 2 ^ (32)),((bg5.getD 1 0) / 2 ^ (32)),((bg5.getD 2 0) / 2 ^ (32)),((bg5.getD 3 0) / 2 ^ (32)),((bg5.getD 4 0) / 2 ^ (32)),((bg5.getD 5 0) / 2 ^ (32)),0,0]))),(14,((0:Int)≤6∧(6:Int)<8)),(6,((0:Int)≤32)),(0,bdN 6 8),(0,(6<(wA .u64 8 [((bg5.getD 0 0) / 2 ^ (32)),((bg5.getD 1 0) / 2 ^ (32)),((bg5.getD 2 0) / 2 ^ (32)),((bg5.getD 3 0) / 2 ^ (32)),((bg5.getD 4 0) / 2 ^ (32)),((bg5.getD 5 0) / 2 ^ (32)),0,0]).size∧(wA .u64 8 [((bg5.getD 0 0) / 2 ^ (32)),((bg5.getD 1 0) / 2 ^ (32)),((bg5.getD 2 0) / 2 ^ (32)),((bg5.getD 3 0) / 2 ^ (32)),((bg5.getD 4 0) / 2 ^ (32)),((bg5.getD 5 0) / 2 ^ (32)),0,0]).setIfInBounds (6) (.int .u64 ((bg5.getD 6 0) / 2 ^ (32)))=(wA .u64 8 [((bg5.getD 0 0) / 2 ^ (32)),((bg5.getD 1 0) / 2 ^ (32)),((bg5.getD 2 0) / 2 ^ (32)),((bg5.getD 3 0) / 2 ^ (32)),((bg5.getD 4 0) / 2 ^ (32)),((bg5.getD 5 0) / 2 ^ (32)),((bg5.getD 6 0) / 2 ^ (32)),0]))),(14,((0:Int)≤7∧(7:Int)<8)),(6,((0:Int)≤32)),(0,bdN 7 8),(0,(7<(wA .u64 8 [((bg5.getD 0 0) / 2 ^ (32)),((bg5.getD 1 0) / 2 ^ (32)),((bg5.getD 2 0) / 2 ^ (32)),((bg5.getD 3 0) / 2 ^ (32)),((bg5.getD 4 0) / 2 ^ (32)),((bg5.getD 5 0) / 2 ^ (32)),((bg5.getD 6 0) / 2 ^ (32)),0]).size∧(wA .u64 8 [((bg5.getD 0 0) / 2 ^ (32)),((bg5.getD 1 0) / 2 ^ (32)),((bg5.getD 2 0) / 2 ^ (32)),((bg5.getD 3 0) / 2 ^ (32)),((bg5.getD 4 0) / 2 ^ (32)),((bg5.getD 5 0) / 2 ^ (32)),((bg5.getD 6 0) / 2 ^ (32)),0]).setIfInBounds (7) (.int .u64 ((bg5.getD 7 0) / 2 ^ (32)))=(wA .u64 8 [((bg5.getD 0 0) / 2 ^ (32)),((bg5.getD 1 0) / 2 ^ (32)),((bg5.getD 2 0) / 2 ^ (32)),((bg5.getD 3 0) / 2 ^ (32)),((bg5.getD 4 0) / 2 ^ (32)),((bg5.getD 5 0) / 2 ^ (32)),((bg5.getD 6 0) / 2 ^ (32)),((bg5.getD 7 0) / 2 ^ (32))])))] 5 (fun j M=>by kernel_rfl) (A1 ⟨by decide,by decide⟩ (A1 (by decide) (A1 (bdd rfl) (A1 ⟨by rw[wA_size];omega,rfl⟩ (A1 ⟨by decide,by decide⟩ (A1 (by decide) (A1 (bdd rfl) (A1 ⟨by rw[wA_size];omega,rfl⟩ (A1 ⟨by decide,by decide⟩ (A1 (by decide) (A1 (bdd rfl) (A1 ⟨by rw[wA_size];omega,rfl⟩ (A1 ⟨by decide,by decide⟩ (A1 (by decide) (A1 (bdd rfl) (A1 ⟨by rw[wA_size];omega,rfl⟩ (A1 ⟨by decide,by decide⟩ (A1 (by decide) (A1 (bdd rfl) (A1 ⟨by rw[wA_size];omega,rfl⟩ (A1 ⟨by decide,by decide⟩ (A1 (by decide) (A1 (bdd rfl) (A1 ⟨by rw[wA_size];omega,rfl⟩ (A1 ⟨by decide,by decide⟩ (A1 (by decide) (A1 (bdd rfl) (A1 ⟨by rw[wA_size];omega,rfl⟩ (A1 ⟨by decide,by decide⟩ (A1 (by decide) (A1 (bdd rfl) (A1 ⟨by rw[wA_size];omega,rfl⟩ A0)))))))))))))))))))))))))))))))) rfl
structure ds2F_c (_:ds2A_c a t bp l cp N) (A:List Int) (m c3 Bn:Nat):Prop where
  hA:m=A.length
  hc3:m≤c3
  hB:m=64*Bn
  hm:m≤2000000000
variable {A:List Int} {m c3 Bn:Nat} {k_2:ds2F_c k_1 A m c3 Bn}
abbrev ds2F (_:ds2F_c k_1 A m c3 Bn):FS:=⟨false,235,[(2,.pointer (some ⟨1,0,none⟩)),(5,.int .i64 4),(6,.pointer (some ⟨2,0,none⟩)),(8,.slice (some ⟨3,0,none⟩) m c3)],[(a,t),((wA .i64 14 [32,64,2,13,22,6,11,25,7,18,3,17,19,10]),(50,(0,0))),((wA .u64 8 [sD2.a,sD2.b,sD2.c,sD2.d,sD2.e,sD2.f,sD2.g,sD2.h]),(59,(0,0))),((wA .u8 c3 A),(5,(0,0)))]⟩
theorem ds24:ds2A_R [1,1,1,1,0] (ds2E k_1) .normal (fun z_=>∃(k1:Nat) (k_2:ds2F_c k_1 (ful2 N) ((ful2 N).length) k1 ((ful2 N).length / 64)),z_=ds2F k_2):=by
  have⟨hu,hN,hl⟩:=id k_1
  refine rn_reg none (by kernel_rfl) fun j c0 ch0=> ?_
  have hM1:MakesA Tryd.prog 47 [(a,t),((wA .i64 14 [32,64,2,13,22,6,11,25,7,18,3,17,19,10]),(50,(0,0))),((wA .u64 8 [sD2.a,sD2.b,sD2.c,sD2.d,sD2.e,sD2.f,sD2.g,sD2.h]),(59,(0,0)))] [.agg (wA .i64 14 [32,64,2,13,22,6,11,25,7,18,3,17,19,10]),.slice bp l cp] .u8 ((ful2 N).length) (ful2 N) 5 0:=(Full2_c (SrcOk.app (x:= [_,_]) hu) hN hl)
  refine rl_call (yty.enf tabD2 1) (call_of Tryd.func47 (by kernel_rfl) (by kernel_rfl)) 2 [] [] 2 3 (some 42) hM1 (by kernel_rfl) A0 fun k1 c1_ e1_ hk1=> ?_
  exact rl_end (E:=(yty.enf tabD2 1)) _ [] [] 1 (fun M=>by kernel_rfl) A0 ⟨k1,⟨rfl,by omega,by rw[ful2_len];omega,by rw[ful2_len];omega⟩,rfl⟩
structure ds2M_c (_:ds2F_c k_1 A m c3 Bn) (y:S8) (k p:Nat):Prop where
  hy:y=hsD2 A k
  hp:p=64*k
  hk:k≤Bn
variable {y:S8} {k p:Nat} {k_3:ds2M_c k_2 y k p}
abbrev ds2M (_:ds2M_c k_2 y k p):FS:=⟨false,235,[(2,.pointer (some ⟨1,0,none⟩)),(5,.int .i64 4),(6,.pointer (some ⟨2,0,none⟩)),(8,.slice (some ⟨3,0,none⟩) m c3),(9,.int .i64 (p:Int))],[(a,t),((wA .i64 14 [32,64,2,13,22,6,11,25,7,18,3,17,19,10]),(50,(0,0))),((wA .u64 8 [y.a,y.b,y.c,y.d,y.e,y.f,y.g,y.h]),(59,(0,0))),((wA .u8 c3 A),(5,(0,0)))]⟩
theorem ds25:ds2A_R [1,1,1,1,1,0,0] (ds2F k_2) .normal (fun z_=>∃(k_3:ds2M_c k_2 sD2 0 0),z_=ds2M k_3):=rn_ev (yty.enf tabD2 1) ds2A_h mixed _ none [] [] 1 (fun j M=>by kernel_rfl) A0 ⟨⟨rfl,rfl,Nat.zero_le _⟩,rfl⟩
structure ds2N_c (_:ds2F_c k_1 A m c3 Bn) (y:S8) (k p:Nat):Prop where
  hy:y=hsD2 A k
  hp:p=64*k
  hk:k<Bn
variable {k_4:ds2N_c k_2 y k p}
abbrev ds2N (_:ds2N_c k_2 y k p):FS:=⟨false,235,[(2,.pointer (some ⟨1,0,none⟩)),(5,.int .i64 4),(6,.pointer (some ⟨2,0,none⟩)),(8,.slice (some ⟨3,0,none⟩) m c3),(9,.int .i64 (p:Int))],[(a,t),((wA .i64 14 [32,64,2,13,22,6,11,25,7,18,3,17,19,10]),(50,(0,0))),((wA .u64 8 [y.a,y.b,y.c,y.d,y.e,y.f,y.g,y.h]),(59,(0,0))),((wA .u8 c3 A),(5,(0,0)))]⟩
theorem ds26 (hlt:k<Bn):ds2A_R [1,1,1,1,1,0,1,0,0,0] (ds2M k_3) .normal (fun z_=>∃(k_4:ds2N_c k_2 y k p),z_=ds2N k_4):=by
  have⟨hu,hN,hl⟩:=id k_1
  have⟨hA,hc3,hB,hm⟩:=id k_2
  have⟨hy,hp,hk⟩:=id k_3
  exact rn_ev (yty.enf tabD2 1) ds2A_h mixed _ none [some (.bool true)] [(7,(decide ((p:Int)<(m:Int)))=true)] 0 (fun j M=>by kernel_rfl) (A1 (decide_eq_true (by omega)) A0) ⟨⟨hy,hp,hlt⟩,rfl⟩
structure ds2X_c (_:ds2F_c k_1 A m c3 Bn) (y:S8) (k p:Nat):Prop where
  hy:y=hsD2 A k
  hp:p=64*k
  hk:k=Bn
variable {k_5:ds2X_c k_2 y k p}
abbrev ds2X (_:ds2X_c k_2 y k p):FS:=⟨false,235,[(2,.pointer (some ⟨1,0,none⟩)),(5,.int .i64 4),(6,.pointer (some ⟨2,0,none⟩)),(8,.slice (some ⟨3,0,none⟩) m c3),(9,.int .i64 (p:Int))],[(a,t),((wA .i64 14 [32,64,2,13,22,6,11,25,7,18,3,17,19,10]),(50,(0,0))),((wA .u64 8 [y.a,y.b,y.c,y.d,y.e,y.f,y.g,y.h]),(59,(0,0))),((wA .u8 c3 A),(5,(0,0)))]⟩
theorem ds27 (hge:¬ k<Bn):ds2A_R [1,1,1,1,1,0,1,0,0,0] (ds2M k_3) (.exit 2) (fun z_=>∃(k_5:ds2X_c k_2 y k p),z_=ds2X k_5):=by
  have⟨hu,hN,hl⟩:=id k_1
  have⟨hA,hc3,hB,hm⟩:=id k_2
  have⟨hy,hp,hk⟩:=id k_3
  exact rn_ev (yty.enf tabD2 1) ds2A_h mixed _ none [some (.bool false)] [(7,(decide ((p:Int)<(m:Int)))=false)] 0 (fun j M=>by kernel_rfl) (A1 (decide_eq_false (by omega)) A0) ⟨⟨hy,hp,by omega⟩,rfl⟩
abbrev ds2a (_:ds2N_c k_2 y k p):FS:=⟨false,235,[(2,.pointer (some ⟨1,0,none⟩)),(5,.int .i64 4),(6,.pointer (some ⟨2,0,none⟩)),(8,.slice (some ⟨3,0,none⟩) m c3),(9,.int .i64 (p:Int)),(10,.slice none 0 0)],[(a,t),((wA .i64 14 [32,64,2,13,22,6,11,25,7,18,3,17,19,10]),(50,(0,0))),((wA .u64 8 [y.a,y.b,y.c,y.d,y.e,y.f,y.g,y.h]),(59,(0,0))),((wA .u8 c3 A),(5,(0,0)))]⟩
theorem ds28:ds2A_R [1,1,1,1,1,0,1,0,0,1,0,0,0] (ds2N k_4) .normal (fun z_=>z_=ds2a k_4):=rn_ev (yty.enf tabD2 1) ds2A_h mixed _ none [] [] 1 (fun j M=>by kernel_rfl) A0 rfl
abbrev ds2b (_:ds2N_c k_2 y k p):FS:=⟨false,235,[(2,.pointer (some ⟨1,0,none⟩)),(5,.int .i64 4),(6,.pointer (some ⟨2,0,none⟩)),(8,.slice (some ⟨3,0,none⟩) m c3),(9,.int .i64 (p:Int)),(10,.slice none 0 0),(11,.int .i64 0)],[(a,t),((wA .i64 14 [32,64,2,13,22,6,11,25,7,18,3,17,19,10]),(50,(0,0))),((wA .u64 8 [y.a,y.b,y.c,y.d,y.e,y.f,y.g,y.h]),(59,(0,0))),((wA .u8 c3 A),(5,(0,0)))]⟩
theorem ds29:ds2A_R [1,1,1,1,1,0,1,0,0,1,0,0,1,0,0] (ds2a k_4) .normal (fun z_=>z_=ds2b k_4):=rn_ev (yty.enf tabD2 1) ds2A_h mixed _ none [] [] 1 (fun j M=>by kernel_rfl) A0 rfl
structure ds2c_c (_:ds2N_c k_2 y k p) (i c4:Nat) (Y:List Int):Prop where
  hY:Y=spD2 A p (i)
  hYl:Y.length=i
  hi:1≤i∧i≤64
  hc4:i≤c4
variable {i c4:Nat} {Y:List Int} {k_6:ds2c_c k_4 i c4 Y}
abbrev ds2c (_:ds2c_c k_4 i c4 Y):FS:=⟨false,235,[(2,.pointer (some ⟨1,0,none⟩)),(5,.int .i64 4),(6,.pointer (some ⟨2,0,none⟩)),(8,.slice (some ⟨3,0,none⟩) m c3),(9,.int .i64 (p:Int)),(10,.slice (some ⟨4,0,none⟩) i c4),(11,.int .i64 (i:Int))],[(a,t),((wA .i64 14 [32,64,2,13,22,6,11,25,7,18,3,17,19,10]),(50,(0,0))),((wA .u64 8 [y.a,y.b,y.c,y.d,y.e,y.f,y.g,y.h]),(59,(0,0))),((wA .u8 c3 A),(5,(0,0))),((wA .u64 c4 Y),(58,(0,0)))]⟩
structure ds2d_c (_:ds2N_c k_2 y k p) (i c4:Nat) (Y:List Int):Prop where
  hY:Y=spD2 A p (i)
  hYl:Y.length=i
  hi:i=64
  hc4:i≤c4
variable {k_7:ds2d_c k_4 i c4 Y}
abbrev ds2d (_:ds2d_c k_4 i c4 Y):FS:=⟨false,235,[(2,.pointer (some ⟨1,0,none⟩)),(5,.int .i64 4),(6,.pointer (some ⟨2,0,none⟩)),(8,.slice (some ⟨3,0,none⟩) m c3),(9,.int .i64 (p:Int)),(10,.slice (some ⟨4,0,none⟩) i c4),(11,.int .i64 (i:Int))],[(a,t),((wA .i64 14 [32,64,2,13,22,6,11,25,7,18,3,17,19,10]),(50,(0,0))),((wA .u64 8 [y.a,y.b,y.c,y.d,y.e,y.f,y.g,y.h]),(59,(0,0))),((wA .u8 c3 A),(5,(0,0))),((wA .u64 c4 Y),(58,(0,0)))]⟩
structure ds2e_c (_:ds2N_c k_2 y k p) (i c4:Nat) (Y:List Int):Prop where
  hY:Y=spD2 A p (i+1)
  hYl:Y.length=i+1
  hi:i<64
  hc4:i+1≤c4
variable {k_8:ds2e_c k_4 i c4 Y}
abbrev ds2e (_:ds2e_c k_4 i c4 Y):FS:=⟨false,235,[(2,.pointer (some ⟨1,0,none⟩)),(5,.int .i64 4),(6,.pointer (some ⟨2,0,none⟩)),(8,.slice (some ⟨3,0,none⟩) m c3),(9,.int .i64 (p:Int)),(10,.slice (some ⟨4,0,none⟩) (i+1) c4),(11,.int .i64 (i:Int))],[(a,t),((wA .i64 14 [32,64,2,13,22,6,11,25,7,18,3,17,19,10]),(50,(0,0))),((wA .u64 8 [y.a,y.b,y.c,y.d,y.e,y.f,y.g,y.h]),(59,(0,0))),((wA .u8 c3 A),(5,(0,0))),((wA .u64 c4 Y),(58,(0,0)))]⟩
theorem ds2f:ds2A_R [1,1,1,1,1,0,1,0,0,1,0,0,1,0,1,0,0,0] (ds2b k_4) .normal (fun z_=>z_=ds2b k_4):=by
  have⟨hu,hN,hl⟩:=id k_1
  have⟨hA,hc3,hB,hm⟩:=id k_2
  have⟨hy,hp,hk⟩:=id k_4
  exact rn_ev (yty.enf tabD2 1) ds2A_h mixed _ none [none,some (.bool true)] [(7,true=true)] 0 (fun j M=>by kernel_rfl) (A1 (by first|rfl|assumption) A0) rfl
structure ds2g_c (_:ds2N_c k_2 y k p) (i c4:Nat) (Y:List Int):Prop where
  hY:Y=spD2 A p (i)
  hYl:Y.length=i
  hi:1≤i∧i<64
  hc4:i≤c4
variable {k_9:ds2g_c k_4 i c4 Y}
abbrev ds2g (_:ds2g_c k_4 i c4 Y):FS:=⟨false,235,[(2,.pointer (some ⟨1,0,none⟩)),(5,.int .i64 4),(6,.pointer (some ⟨2,0,none⟩)),(8,.slice (some ⟨3,0,none⟩) m c3),(9,.int .i64 (p:Int)),(10,.slice (some ⟨4,0,none⟩) i c4),(11,.int .i64 (i:Int))],[(a,t),((wA .i64 14 [32,64,2,13,22,6,11,25,7,18,3,17,19,10]),(50,(0,0))),((wA .u64 8 [y.a,y.b,y.c,y.d,y.e,y.f,y.g,y.h]),(59,(0,0))),((wA .u8 c3 A),(5,(0,0))),((wA .u64 c4 Y),(58,(0,0)))]⟩
theorem ds2h (hlt:i<64):ds2A_R [1,1,1,1,1,0,1,0,0,1,0,0,1,0,1,0,0,0] (ds2c k_6) .normal (fun z_=>∃(k_9:ds2g_c k_4 i c4 Y),z_=ds2g k_9):=by
  have⟨hu,hN,hl⟩:=id k_1
  have⟨hA,hc3,hB,hm⟩:=id k_2
  have⟨hy,hp,hk⟩:=id k_4
  have⟨hY,hYl,hi,hc4⟩:=id k_6
  exact rn_ev (yty.enf tabD2 1) ds2A_h mixed _ none [none,some (.bool true)] [(7,(decide ((i:Int)<64))=true)] 0 (fun j M=>by kernel_rfl) (A1 (decide_eq_true (by omega)) A0) ⟨⟨hY,hYl,by omega,hc4⟩,rfl⟩
theorem ds2i (hge:¬ i<64):ds2A_R [1,1,1,1,1,0,1,0,0,1,0,0,1,0,1,0,0,0] (ds2c k_6) (.exit 4) (fun z_=>∃(k_7:ds2d_c k_4 i c4 Y),z_=ds2d k_7):=by
  have⟨hu,hN,hl⟩:=id k_1
  have⟨hA,hc3,hB,hm⟩:=id k_2
  have⟨hy,hp,hk⟩:=id k_4
  have⟨hY,hYl,hi,hc4⟩:=id k_6
  exact rn_ev (yty.enf tabD2 1) ds2A_h mixed _ none [none,some (.bool false)] [(7,(decide ((i:Int)<64))=false)] 0 (fun j M=>by kernel_rfl) (A1 (decide_eq_false (by omega)) A0) ⟨⟨hY,hYl,by omega,hc4⟩,rfl⟩
abbrev ds2j (_:ds2N_c k_2 y k p):FS:=⟨false,235,[(2,.pointer (some ⟨1,0,none⟩)),(5,.int .i64 4),(6,.pointer (some ⟨2,0,none⟩)),(8,.slice (some ⟨3,0,none⟩) m c3),(9,.int .i64 (p:Int)),(10,.slice none 0 0),(11,.int .i64 0),(12,.int .u64 0)],[(a,t),((wA .i64 14 [32,64,2,13,22,6,11,25,7,18,3,17,19,10]),(50,(0,0))),((wA .u64 8 [y.a,y.b,y.c,y.d,y.e,y.f,y.g,y.h]),(59,(0,0))),((wA .u8 c3 A),(5,(0,0)))]⟩
abbrev ds2k (_:ds2g_c k_4 i c4 Y):FS:=⟨false,235,[(2,.pointer (some ⟨1,0,none⟩)),(5,.int .i64 4),(6,.pointer (some ⟨2,0,none⟩)),(8,.slice (some ⟨3,0,none⟩) m c3),(9,.int .i64 (p:Int)),(10,.slice (some ⟨4,0,none⟩) i c4),(11,.int .i64 (i:Int)),(12,.int .u64 0)],[(a,t),((wA .i64 14 [32,64,2,13,22,6,11,25,7,18,3,17,19,10]),(50,(0,0))),((wA .u64 8 [y.a,y.b,y.c,y.d,y.e,y.f,y.g,y.h]),(59,(0,0))),((wA .u8 c3 A),(5,(0,0))),((wA .u64 c4 Y),(58,(0,0)))]⟩
theorem ds2l:ds2A_R [1,1,1,1,1,0,1,0,0,1,0,0,1,0,1,0,0,1,0,0,0] (ds2b k_4) .normal (fun z_=>z_=ds2j k_4):=rn_ev (yty.enf tabD2 1) ds2A_h mixed _ none [] [] 1 (fun j M=>by kernel_rfl) A0 rfl
theorem ds2m:ds2A_R [1,1,1,1,1,0,1,0,0,1,0,0,1,0,1,0,0,1,0,0,0] (ds2g k_9) .normal (fun z_=>z_=ds2k k_9):=rn_ev (yty.enf tabD2 1) ds2A_h mixed _ none [] [] 1 (fun j M=>by kernel_rfl) A0 rfl
structure ds2n_c (_:ds2N_c k_2 y k p) (x:Int):Prop where
  hx:x=xw2 A p 0
variable {x:Int} {k_10:ds2n_c k_4 x}
abbrev ds2n (_:ds2n_c k_4 x):FS:=⟨false,235,[(2,.pointer (some ⟨1,0,none⟩)),(5,.int .i64 4),(6,.pointer (some ⟨2,0,none⟩)),(8,.slice (some ⟨3,0,none⟩) m c3),(9,.int .i64 (p:Int)),(10,.slice none 0 0),(11,.int .i64 0),(12,.int .u64 x)],[(a,t),((wA .i64 14 [32,64,2,13,22,6,11,25,7,18,3,17,19,10]),(50,(0,0))),((wA .u64 8 [y.a,y.b,y.c,y.d,y.e,y.f,y.g,y.h]),(59,(0,0))),((wA .u8 c3 A),(5,(0,0)))]⟩
structure ds2o_c (_:ds2g_c k_4 i c4 Y) (x:Int):Prop where
  hx:x=if i<16 then xw2 A p i else xm2 Y i
variable {k_11:ds2o_c k_9 x}
abbrev ds2o (_:ds2o_c k_9 x):FS:=⟨false,235,[(2,.pointer (some ⟨1,0,none⟩)),(5,.int .i64 4),(6,.pointer (some ⟨2,0,none⟩)),(8,.slice (some ⟨3,0,none⟩) m c3),(9,.int .i64 (p:Int)),(10,.slice (some ⟨4,0,none⟩) i c4),(11,.int .i64 (i:Int)),(12,.int .u64 x)],[(a,t),((wA .i64 14 [32,64,2,13,22,6,11,25,7,18,3,17,19,10]),(50,(0,0))),((wA .u64 8 [y.a,y.b,y.c,y.d,y.e,y.f,y.g,y.h]),(59,(0,0))),((wA .u8 c3 A),(5,(0,0))),((wA .u64 c4 Y),(58,(0,0)))]⟩
set_option maxRecDepth 100000 in
theorem ds2p:ds2A_R [1,1,1,1,1,0,1,0,0,1,0,0,1,0,1,0,0,1,0,0,1,0] (ds2j k_4) .normal (fun z_=>∃(k_10:ds2n_c k_4 (xw2 A p 0)),z_=ds2n k_10):=by
  have⟨hu,hN,hl⟩:=id k_1
  have⟨hA,hc3,hB,hm⟩:=id k_2
  have⟨hy,hp,hk⟩:=id k_4
  exact rn_ev (yty.enf tabD2 1) ds2A_h mixed _ none [none,none,none,none,some (.int .i64 (p:Int)),some (.int .i64 (p:Int)),some (.int .u8 (A.getD p 0)),none,none,none,none,none,none,some (.int .i64 (p:Int)),some (.int .i64 ((p+1:Nat):Int)),some (.int .u8 (A.getD (p+1) 0)),none,none,none,none,none,none,some (.int .i64 (p:Int)),some (.int .i64 ((p+2:Nat):Int)),some (.int .u8 (A.getD (p+2) 0)),none,none,none,none,none,none,some (.int .i64 (p:Int)),some (.int .i64 ((p+3:Nat):Int)),some (.int .u8 (A.getD (p+3) 0))] [(27,(IntKind.i64.wrap ((p:Int)+0))=(p:Int)),(3,(IntKind.i64.wrap ((p:Int)+0))=(p:Int)),(0,((0:Int)≤(p:Int)∧((p:Int):Int)<(m:Int))),(0,(((wA .u8 c3 A)[(0+Int.toNat (p:Int)*1)]? =some (.int .u8 (A.getD p 0)))∧(A.getD p 0)=(A.getD p 0))),(33,(IntKind.i64.wrap ((p:Int)+0))=(p:Int)),(3,(IntKind.i64.wrap ((p:Int)+1))=((p+1:Nat):Int)),(0,((0:Int)≤((p+1:Nat):Int)∧(((p+1:Nat):Int):Int)<(m:Int))),(0,(((wA .u8 c3 A)[(0+Int.toNat ((p+1:Nat):Int)*1)]? =some (.int .u8 (A.getD (p+1) 0)))∧(A.getD (p+1) 0)=(A.getD (p+1) 0))),(33,(IntKind.i64.wrap ((p:Int)+0))=(p:Int)),(3,(IntKind.i64.wrap ((p:Int)+2))=((p+2:Nat):Int)),(0,((0:Int)≤((p+2:Nat):Int)∧(((p+2:Nat):Int):Int)<(m:Int))),(0,(((wA .u8 c3 A)[(0+Int.toNat ((p+2:Nat):Int)*1)]? =some (.int .u8 (A.getD (p+2) 0)))∧(A.getD (p+2) 0)=(A.getD (p+2) 0))),(33,(IntKind.i64.wrap ((p:Int)+0))=(p:Int)),(3,(IntKind.i64.wrap ((p:Int)+3))=((p+3:Nat):Int)),(0,((0:Int)≤((p+3:Nat):Int)∧(((p+3:Nat):Int):Int)<(m:Int))),(0,(((wA .u8 c3 A)[(0+Int.toNat ((p+3:Nat):Int)*1)]? =some (.int .u8 (A.getD (p+3) 0)))∧(A.getD (p+3) 0)=(A.getD (p+3) 0)))] 9 (fun j M=>by kernel_rfl) (A1 (wi64 (by omega)) (A1 (wi64 (by omega)) (A1 (by(try simp only[Int.toNat_natCast,wA_size]);omega) (A1 ⟨(wA_get (by omega) (by omega)),rfl⟩ (A1 (wi64 (by omega)) (A1 (wi64 (by omega)) (A1 (by(try simp only[Int.toNat_natCast,wA_size]);omega) (A1 ⟨(wA_get (by omega) (by omega)),rfl⟩ (A1 (wi64 (by omega)) (A1 (wi64 (by omega)) (A1 (by(try simp only[Int.toNat_natCast,wA_size]);omega) (A1 ⟨(wA_get (by omega) (by omega)),rfl⟩ (A1 (wi64 (by omega)) (A1 (wi64 (by omega)) (A1 (by(try simp only[Int.toNat_natCast,wA_size]);omega) (A1 ⟨(wA_get (by omega) (by omega)),rfl⟩ A0)))))))))))))))) ⟨⟨rfl⟩,rfl⟩
set_option maxRecDepth 100000 in
theorem ds2q (h16:i<16):ds2A_R [1,1,1,1,1,0,1,0,0,1,0,0,1,0,1,0,0,1,0,0,1,0] (ds2k k_9) .normal (fun z_=>∃(k_11:ds2o_c k_9 (xw2 A p i)),z_=ds2o k_11):=by
  have⟨hu,hN,hl⟩:=id k_1
  have⟨hA,hc3,hB,hm⟩:=id k_2
  have⟨hy,hp,hk⟩:=id k_4
  have⟨hY,hYl,hi,hc4⟩:=id k_9
  exact rn_ev (yty.enf tabD2 1) ds2A_h mixed _ none [some (.bool true),none,none,some (.int .i64 ((i*4:Nat):Int)),some (.int .i64 ((p+(i*4):Nat):Int)),some (.int .i64 ((p+(i*4):Nat):Int)),some (.int .u8 (A.getD (p+(i*4)) 0)),none,none,none,none,none,some (.int .i64 ((i*4:Nat):Int)),some (.int .i64 ((p+(i*4):Nat):Int)),some (.int .i64 ((p+(i*4)+1:Nat):Int)),some (.int .u8 (A.getD (p+(i*4)+1) 0)),none,none,none,none,none,some (.int .i64 ((i*4:Nat):Int)),some (.int .i64 ((p+(i*4):Nat):Int)),some (.int .i64 ((p+(i*4)+2:Nat):Int)),some (.int .u8 (A.getD (p+(i*4)+2) 0)),none,none,none,none,none,some (.int .i64 ((i*4:Nat):Int)),some (.int .i64 ((p+(i*4):Nat):Int)),some (.int .i64 ((p+(i*4)+3:Nat):Int)),some (.int .u8 (A.getD (p+(i*4)+3) 0))] [(3,(decide ((i:Int)<16))=true),(21,(IntKind.i64.wrap ((i:Int)*4))=((i*4:Nat):Int)),(1,(IntKind.i64.wrap ((p:Int)+((i*4:Nat):Int)))=((p+(i*4):Nat):Int)),(3,(IntKind.i64.wrap (((p+(i*4):Nat):Int)+0))=((p+(i*4):Nat):Int)),(0,((0:Int)≤((p+(i*4):Nat):Int)∧(((p+(i*4):Nat):Int):Int)<(m:Int))),(0,(((wA .u8 c3 A)[(0+Int.toNat ((p+(i*4):Nat):Int)*1)]? =some (.int .u8 (A.getD (p+(i*4)) 0)))∧(A.getD (p+(i*4)) 0)=(A.getD (p+(i*4)) 0))),(31,(IntKind.i64.wrap ((i:Int)*4))=((i*4:Nat):Int)),(1,(IntKind.i64.wrap ((p:Int)+((i*4:Nat):Int)))=((p+(i*4):Nat):Int)),(3,(IntKind.i64.wrap (((p+(i*4):Nat):Int)+1))=((p+(i*4)+1:Nat):Int)),(0,((0:Int)≤((p+(i*4)+1:Nat):Int)∧(((p+(i*4)+1:Nat):Int):Int)<(m:Int))),(0,(((wA .u8 c3 A)[(0+Int.toNat ((p+(i*4)+1:Nat):Int)*1)]? =some (.int .u8 (A.getD (p+(i*4)+1) 0)))∧(A.getD (p+(i*4)+1) 0)=(A.getD (p+(i*4)+1) 0))),(31,(IntKind.i64.wrap ((i:Int)*4))=((i*4:Nat):Int)),(1,(IntKind.i64.wrap ((p:Int)+((i*4:Nat):Int)))=((p+(i*4):Nat):Int)),(3,(IntKind.i64.wrap (((p+(i*4):Nat):Int)+2))=((p+(i*4)+2:Nat):Int)),(0,((0:Int)≤((p+(i*4)+2:Nat):Int)∧(((p+(i*4)+2:Nat):Int):Int)<(m:Int))),(0,(((wA .u8 c3 A)[(0+Int.toNat ((p+(i*4)+2:Nat):Int)*1)]? =some (.int .u8 (A.getD (p+(i*4)+2) 0)))∧(A.getD (p+(i*4)+2) 0)=(A.getD (p+(i*4)+2) 0))),(31,(IntKind.i64.wrap ((i:Int)*4))=((i*4:Nat):Int)),(1,(IntKind.i64.wrap ((p:Int)+((i*4:Nat):Int)))=((p+(i*4):Nat):Int)),(3,(IntKind.i64.wrap (((p+(i*4):Nat):Int)+3))=((p+(i*4)+3:Nat):Int)),(0,((0:Int)≤((p+(i*4)+3:Nat):Int)∧(((p+(i*4)+3:Nat):Int):Int)<(m:Int))),(0,(((wA .u8 c3 A)[(0+Int.toNat ((p+(i*4)+3:Nat):Int)*1)]? =some (.int .u8 (A.getD (p+(i*4)+3) 0)))∧(A.getD (p+(i*4)+3) 0)=(A.getD (p+(i*4)+3) 0)))] 9 (fun j M=>by kernel_rfl) (A1 (decide_eq_true (by omega)) (A1 (wi64 (by omega)) (A1 (wi64 (by omega)) (A1 (wi64 (by omega)) (A1 (by(try simp only[Int.toNat_natCast,wA_size]);omega) (A1 ⟨(wA_get (by omega) (by omega)),rfl⟩ (A1 (wi64 (by omega)) (A1 (wi64 (by omega)) (A1 (wi64 (by omega)) (A1 (by(try simp only[Int.toNat_natCast,wA_size]);omega) (A1 ⟨(wA_get (by omega) (by omega)),rfl⟩ (A1 (wi64 (by omega)) (A1 (wi64 (by omega)) (A1 (wi64 (by omega)) (A1 (by(try simp only[Int.toNat_natCast,wA_size]);omega) (A1 ⟨(wA_get (by omega) (by omega)),rfl⟩ (A1 (wi64 (by omega)) (A1 (wi64 (by omega)) (A1 (wi64 (by omega)) (A1 (by(try simp only[Int.toNat_natCast,wA_size]);omega) (A1 ⟨(wA_get (by omega) (by omega)),rfl⟩ A0))))))))))))))))))))) ⟨⟨(if_pos h16).symm⟩,rfl⟩
theorem ds2r (h16:¬ i<16):ds2A_R [1,1,1,1,1,0,1,0,0,1,0,0,1,0,1,0,0,1,0,0,1,0] (ds2k k_9) .normal (fun z_=>∃(k_11:ds2o_c k_9 (xm2 Y i)),z_=ds2o k_11):=by
  have⟨hu,hN,hl⟩:=id k_1
  have⟨hA,hc3,hB,hm⟩:=id k_2
  have⟨hy,hp,hk⟩:=id k_4
  have⟨hY,hYl,hi,hc4⟩:=id k_9
  exact rn_ev (yty.enf tabD2 1) ds2A_h mixed _ none [some (.bool false),some (.int .i64 ((i - 2:Nat):Int)),some (.int .u64 (Y.getD (i - 2) 0)),some (.int .i64 ((i - 7:Nat):Int)),some (.int .u64 (Y.getD (i - 7) 0)),none,some (.int .i64 ((i - 15:Nat):Int)),some (.int .u64 (Y.getD (i - 15) 0)),none,some (.int .i64 ((i - 16:Nat):Int)),some (.int .u64 (Y.getD (i - 16) 0))] [(3,(decide ((i:Int)<16))=false),(9,(IntKind.i64.wrap ((i:Int) - 2))=((i - 2:Nat):Int)),(0,((0:Int)≤((i - 2:Nat):Int)∧(((i - 2:Nat):Int):Int)<(i:Int))),(0,(((wA .u64 c4 Y)[(0+Int.toNat ((i - 2:Nat):Int)*1)]? =some (.int .u64 (Y.getD (i - 2) 0)))∧(Y.getD (i - 2) 0)=(Y.getD (i - 2) 0))),(0,((wA .i64 14 [32,64,2,13,22,6,11,25,7,18,3,17,19,10])=qC2∧(0:Int)≤3∧(3:Int)<4)),(5,(IntKind.i64.wrap ((i:Int) - 7))=((i - 7:Nat):Int)),(0,((0:Int)≤((i - 7:Nat):Int)∧(((i - 7:Nat):Int):Int)<(i:Int))),(0,(((wA .u64 c4 Y)[(0+Int.toNat ((i - 7:Nat):Int)*1)]? =some (.int .u64 (Y.getD (i - 7) 0)))∧(Y.getD (i - 7) 0)=(Y.getD (i - 7) 0))),(9,(IntKind.i64.wrap ((i:Int) - 15))=((i - 15:Nat):Int)),(0,((0:Int)≤((i - 15:Nat):Int)∧(((i - 15:Nat):Int):Int)<(i:Int))),(0,(((wA .u64 c4 Y)[(0+Int.toNat ((i - 15:Nat):Int)*1)]? =some (.int .u64 (Y.getD (i - 15) 0)))∧(Y.getD (i - 15) 0)=(Y.getD (i - 15) 0))),(0,((wA .i64 14 [32,64,2,13,22,6,11,25,7,18,3,17,19,10])=qC2∧(0:Int)≤2∧(2:Int)<4)),(7,(IntKind.i64.wrap ((i:Int) - 16))=((i - 16:Nat):Int)),(0,((0:Int)≤((i - 16:Nat):Int)∧(((i - 16:Nat):Int):Int)<(i:Int))),(0,(((wA .u64 c4 Y)[(0+Int.toNat ((i - 16:Nat):Int)*1)]? =some (.int .u64 (Y.getD (i - 16) 0)))∧(Y.getD (i - 16) 0)=(Y.getD (i - 16) 0))),(2,((wA .i64 14 [32,64,2,13,22,6,11,25,7,18,3,17,19,10])=qC2))] 1 (fun j M=>by kernel_rfl) (A1 (decide_eq_false (by omega)) (A1 (wi64 (by omega)) (A1 (by(try simp only[Int.toNat_natCast,wA_size]);omega) (A1 ⟨(wA_get (by omega) (by omega)),rfl⟩ (A1 ⟨rfl,by decide,by decide⟩ (A1 (wi64 (by omega)) (A1 (by(try simp only[Int.toNat_natCast,wA_size]);omega) (A1 ⟨(wA_get (by omega) (by omega)),rfl⟩ (A1 (wi64 (by omega)) (A1 (by(try simp only[Int.toNat_natCast,wA_size]);omega) (A1 ⟨(wA_get (by omega) (by omega)),rfl⟩ (A1 ⟨rfl,by decide,by decide⟩ (A1 (wi64 (by omega)) (A1 (by(try simp only[Int.toNat_natCast,wA_size]);omega) (A1 ⟨(wA_get (by omega) (by omega)),rfl⟩ (A1 rfl A0)))))))))))))))) ⟨⟨(if_neg h16).symm⟩,rfl⟩
theorem ds2s:ds2A_R [1,1,1,1,1,0,1,0,0,1,0,0,1,0,1,0,0,1,0,0,1,0] (ds2k k_9) .normal (fun z_=>∃(x:Int) (k_11:ds2o_c k_9 x),z_=ds2o k_11):=by
  by_cases h16:i<16
  · exact(ds2q h16).mono fun _ ⟨k_11,e_⟩=>⟨_,k_11,e_⟩
  · exact(ds2r h16).mono fun _ ⟨k_11,e_⟩=>⟨_,k_11,e_⟩
theorem ds2t:ds2A_R [1,1,1,1,1,0,1,0,0,1,0,0,1,0,1,0,0,1,0,0,1,1] (ds2n k_10) .normal (fun z_=>∃(k1:Nat) (k_8:ds2e_c k_4 0 k1 ([x])),z_=ds2e k_8):=by
  have⟨hu,hN,hl⟩:=id k_1
  have⟨hA,hc3,hB,hm⟩:=id k_2
  have⟨hy,hp,hk⟩:=id k_4
  have⟨hx⟩:=id k_10
  refine rn_reg (some (true,4)) (by kernel_rfl) fun j c0 ch0=> ?_
  refine rl_appN (yty.enf tabD2 1) apW apW.ht 3 [] [] 2 [(a,t),((wA .i64 14 [32,64,2,13,22,6,11,25,7,18,3,17,19,10]),(50,(0,0))),((wA .u64 8 [y.a,y.b,y.c,y.d,y.e,y.f,y.g,y.h]),(59,(0,0))),((wA .u8 c3 A),(5,(0,0))),((wA .u64 1 [x]),(58,(0,0)))] 5 ([x]) (.slice (some ⟨4,0,none⟩) 1 1) (some 110) (by kernel_rfl) A0 (src_wA (i:=4) rfl rfl (Nat.le_refl 1)) (by simp) (by simp) fun n1 k1 c1_ e1_ hn1 hk1=> ?_
  try simp only[zL] at hn1
  obtain rfl:n1=1:=hn1
  exact rl_end (E:=(yty.enf tabD2 1)) _ [] [] 1 (fun M=>by kernel_rfl) A0 ⟨k1,⟨by rw[hx];rfl,rfl,by omega,by omega⟩,rfl⟩
theorem ds2u:ds2A_R [1,1,1,1,1,0,1,0,0,1,0,0,1,0,1,0,0,1,0,0,1,1] (ds2o k_11) .normal (fun z_=>∃(k1:Nat) (k_8:ds2e_c k_4 i k1 (Y ++ [x])),z_=ds2e k_8):=by
  have⟨hu,hN,hl⟩:=id k_1
  have⟨hA,hc3,hB,hm⟩:=id k_2
  have⟨hy,hp,hk⟩:=id k_4
  have⟨hY,hYl,hi,hc4⟩:=id k_9
  have⟨hx⟩:=id k_11
  refine rn_reg (some (false,5)) (by kernel_rfl) fun j c0 ch0=> ?_
  refine rl_app (yty.enf tabD2 1) apW apW.ht 3 [] [] 2 [(a,t),((wA .i64 14 [32,64,2,13,22,6,11,25,7,18,3,17,19,10]),(50,(0,0))),((wA .u64 8 [y.a,y.b,y.c,y.d,y.e,y.f,y.g,y.h]),(59,(0,0))),((wA .u8 c3 A),(5,(0,0))),((wA .u64 c4 Y),(58,(0,0))),((wA .u64 1 [x]),(58,(0,0)))] 4 i c4 Y ([x]) (.slice (some ⟨5,0,none⟩) 1 1) (some 110) (by kernel_rfl) A0 (by omega) (by omega) (src_wA (i:=5) rfl rfl (Nat.le_refl 1)) (by simp only[List.length_cons,List.length_nil];omega) fun n1 k1 M1 c1_ e1_ hn1 hk1=> ?_
  try simp only[zL] at hn1
  obtain rfl:n1=i+1:=by omega
  exact rl_end (E:=(yty.enf tabD2 1)) _ [] [] 1 (fun M=>by kernel_rfl) A0 ⟨k1,⟨by rw[hx,hY];rfl,by simp only[List.length_append,List.length_cons,List.length_nil];omega,hi.2,by omega⟩,rfl⟩
theorem ds2w:ds2A_R [1,1,1,1,1,0,1,0,0,1,0,0,1,0,1,0,0,1,0,0] (ds2b k_4) .normal (fun z_=>∃(k12:Nat) (k_8:ds2e_c k_4 0 k12 ([(xw2 A p 0)])),z_=ds2e k_8):=by
  refine rn_seq (w:= [1,1,1,1,1,0,1,0,0,1,0,0,1,0,1,0,0,1,0,0]) (by kernel_rfl) ds2l ?_
  rintro _ rfl
  refine rn_seq (w:= [1,1,1,1,1,0,1,0,0,1,0,0,1,0,1,0,0,1,0,0,1]) (by kernel_rfl) ds2p ?_
  rintro _ ⟨k_10,rfl⟩
  exact ds2t
theorem ds2v:ds2A_R [1,1,1,1,1,0,1,0,0,1,0,0,1,0,1,0,0,1,0] (ds2b k_4) .normal (fun z_=>∃(k12:Nat) (k_8:ds2e_c k_4 0 k12 ([(xw2 A p 0)])),z_=ds2e k_8):=rn_block (k:=5) (w:= [1,1,1,1,1,0,1,0,0,1,0,0,1,0,1,0,0,1,0]) (by kernel_rfl) ds2w
theorem ds2y:ds2A_R [1,1,1,1,1,0,1,0,0,1,0,0,1,0,1,0,0,1,0,0] (ds2g k_9) .normal (fun z_=>∃(x1:Int) (k12:Nat) (k_8:ds2e_c k_4 i k12 (Y ++ [x1])),z_=ds2e k_8):=by
  refine rn_seq (w:= [1,1,1,1,1,0,1,0,0,1,0,0,1,0,1,0,0,1,0,0]) (by kernel_rfl) ds2m ?_
  rintro _ rfl
  refine rn_seq (w:= [1,1,1,1,1,0,1,0,0,1,0,0,1,0,1,0,0,1,0,0,1]) (by kernel_rfl) ds2s ?_
  rintro _ ⟨x1,k_11,rfl⟩
  exact(ds2u).mono fun _ ⟨k12,k_8,e_⟩=>⟨x1,k12,k_8,e_⟩
theorem ds2x:ds2A_R [1,1,1,1,1,0,1,0,0,1,0,0,1,0,1,0,0,1,0] (ds2g k_9) .normal (fun z_=>∃(x1:Int) (k12:Nat) (k_8:ds2e_c k_4 i k12 (Y ++ [x1])),z_=ds2e k_8):=rn_block (k:=5) (w:= [1,1,1,1,1,0,1,0,0,1,0,0,1,0,1,0,0,1,0]) (by kernel_rfl) ds2y
theorem ds2z:ds2A_R [1,1,1,1,1,0,1,0,0,1,0,0,1,0,1,0,0,1,1] (ds2e k_8) .normal (fun z_=>∃(k_6:ds2c_c k_4 (i+1) c4 Y),z_=ds2c k_6):=by
  have⟨hu,hN,hl⟩:=id k_1
  have⟨hA,hc3,hB,hm⟩:=id k_2
  have⟨hy,hp,hk⟩:=id k_4
  have⟨hY,hYl,hi,hc4⟩:=id k_8
  exact rn_ev (yty.enf tabD2 1) ds2A_h mixed _ none [some (.int .i64 ((i+1:Nat):Int))] [(3,(IntKind.i64.wrap ((i:Int)+1))=((i+1:Nat):Int))] 1 (fun j M=>by kernel_rfl) (A1 (wi64 (by omega)) A0) ⟨⟨hY,hYl,by omega,hc4⟩,rfl⟩
theorem ds2aa:ds2A_R [1,1,1,1,1,0,1,0,0,1,0,0,1,0,1,0,0] (ds2b k_4) .normal (fun z_=>∃(k121:Nat) (k_6:ds2c_c k_4 (0+1) k121 ([(xw2 A p 0)])),z_=ds2c k_6):=by
  refine rn_seq (w:= [1,1,1,1,1,0,1,0,0,1,0,0,1,0,1,0,0]) (by kernel_rfl) ds2f ?_
  rintro _ rfl
  refine rn_seq (w:= [1,1,1,1,1,0,1,0,0,1,0,0,1,0,1,0,0,1]) (by kernel_rfl) ds2v ?_
  rintro _ ⟨k121,k_8,rfl⟩
  exact(ds2z).mono fun _ ⟨k_6,e_⟩=>⟨k121,k_6,e_⟩
theorem ds2ab (hlt:i<64):ds2A_R [1,1,1,1,1,0,1,0,0,1,0,0,1,0,1,0,0] (ds2c k_6) .normal (fun z_=>∃(x11:Int) (k121:Nat) (k_6:ds2c_c k_4 (i+1) k121 (Y ++ [x11])),z_=ds2c k_6):=by
  refine rn_seq (w:= [1,1,1,1,1,0,1,0,0,1,0,0,1,0,1,0,0]) (by kernel_rfl) (ds2h hlt) ?_
  rintro _ ⟨k_9,rfl⟩
  refine rn_seq (w:= [1,1,1,1,1,0,1,0,0,1,0,0,1,0,1,0,0,1]) (by kernel_rfl) ds2x ?_
  rintro _ ⟨x11,k121,k_8,rfl⟩
  exact(ds2z).mono fun _ ⟨k_6,e_⟩=>⟨x11,k121,k_6,e_⟩
theorem ds2ac:ds2A_R [1,1,1,1,1,0,1,0,0,1,0,0,1,0,1] (ds2b k_4) .normal (fun z_=>∃(i c4:Nat) (Y:List Int) (k_7:ds2d_c k_4 i c4 Y),z_=ds2d k_7):=by
  refine rn_loop (k:=4) (w:= [1,1,1,1,1,0,1,0,0,1,0,0,1,0,1]) (by kernel_rfl) (fun n_ z_=>(n_=64 - 0∧z_=ds2b k_4)∨∃(i c4:Nat) (Y:List Int) (k_6:ds2c_c k_4 i c4 Y),n_=64 - i∧z_=ds2c k_6) _ (.inl ⟨rfl,rfl⟩) ?_
  rintro n_ _ (⟨hn_,rfl⟩|⟨i,c4,Y,k_6,hn_,rfl⟩)
  · have ⟨hu, hN, hl⟩ := k_1
    have⟨hA,hc3,hB,hm⟩:=k_2
    have⟨hy,hp,hk⟩:=k_4
    have hlt:0<64:=by omega
    exact ds2aa.x fun _ ⟨k121_,k_6,e_⟩=> .inl ⟨rfl,64 - (0+1),by omega,.inr ⟨_,_,_,k_6,rfl,e_⟩⟩
  · have ⟨hu, hN, hl⟩ := k_1
    have⟨hA,hc3,hB,hm⟩:=k_2
    have⟨hy,hp,hk⟩:=k_4
    have⟨hY,hYl,hi,hc4⟩:=k_6
    by_cases hlt:i<64
    · exact(ds2ab hlt).x fun _ ⟨x11_,k121_,k_6,e_⟩=> .inl ⟨rfl,64 - (i+1),by omega,.inr ⟨_,_,_,k_6,rfl,e_⟩⟩
    · exact(rn_seqx (w:= [1,1,1,1,1,0,1,0,0,1,0,0,1,0,1,0,0]) (by kernel_rfl) (ds2i hlt) (by simp)).x fun _ ⟨k_7,e_⟩=> .inr ⟨rfl,⟨i,c4,Y,k_7,e_⟩⟩
theorem ds2ad:ds2A_R [1,1,1,1,1,0,1,0,0,1,0,0,1,0] (ds2a k_4) .normal (fun z_=>∃(i1 c41:Nat) (Y1:List Int) (k_7:ds2d_c k_4 i1 c41 Y1),z_=ds2d k_7):=by
  refine rn_seq (w:= [1,1,1,1,1,0,1,0,0,1,0,0,1,0]) (by kernel_rfl) ds29 ?_
  rintro _ rfl
  exact ds2ac
structure ds2ae_c (_:ds2d_c k_4 i c4 Y) (z:S8):Prop where
  hz:z=y
variable {z:S8} {k_12:ds2ae_c k_7 z}
abbrev ds2ae (_:ds2ae_c k_7 z):FS:=⟨false,235,[(2,.pointer (some ⟨1,0,none⟩)),(5,.int .i64 4),(6,.pointer (some ⟨2,0,none⟩)),(8,.slice (some ⟨3,0,none⟩) m c3),(9,.int .i64 (p:Int)),(10,.slice (some ⟨4,0,none⟩) i c4),(14,.pointer (some ⟨5,0,none⟩))],[(a,t),((wA .i64 14 [32,64,2,13,22,6,11,25,7,18,3,17,19,10]),(50,(0,0))),((wA .u64 8 [y.a,y.b,y.c,y.d,y.e,y.f,y.g,y.h]),(59,(0,0))),((wA .u8 c3 A),(5,(0,0))),((wA .u64 c4 Y),(58,(0,0))),((wA .u64 8 [z.a,z.b,z.c,z.d,z.e,z.f,z.g,z.h]),(59,(0,0)))]⟩
theorem ds2af:ds2A_R [1,1,1,1,1,0,1,0,0,1,0,0,1,1,0] (ds2d k_7) .normal (fun z_=>∃(k_12:ds2ae_c k_7 y),z_=ds2ae k_12):=rn_ev (yty.enf tabD2 1) ds2A_h mixed _ none [] [(2,((wA .u64 8 [y.a,y.b,y.c,y.d,y.e,y.f,y.g,y.h]).all (fun v=>v.oneCell')=true))] 0 (fun j M=>by kernel_rfl) (A1 (wA_one _ _ _) A0) ⟨⟨rfl⟩,rfl⟩
structure ds2ag_c (_:ds2d_c k_4 i c4 Y) (z:S8) (r:Nat):Prop where
  hz:z=itD2 Y y r
  hr:r≤64
variable {r:Nat} {k_13:ds2ag_c k_7 z r}
abbrev ds2ag (_:ds2ag_c k_7 z r):FS:=⟨false,235,[(2,.pointer (some ⟨1,0,none⟩)),(5,.int .i64 4),(6,.pointer (some ⟨2,0,none⟩)),(8,.slice (some ⟨3,0,none⟩) m c3),(9,.int .i64 (p:Int)),(10,.slice (some ⟨4,0,none⟩) i c4),(14,.pointer (some ⟨5,0,none⟩)),(15,.int .i64 (r:Int))],[(a,t),((wA .i64 14 [32,64,2,13,22,6,11,25,7,18,3,17,19,10]),(50,(0,0))),((wA .u64 8 [y.a,y.b,y.c,y.d,y.e,y.f,y.g,y.h]),(59,(0,0))),((wA .u8 c3 A),(5,(0,0))),((wA .u64 c4 Y),(58,(0,0))),((wA .u64 8 [z.a,z.b,z.c,z.d,z.e,z.f,z.g,z.h]),(59,(0,0)))]⟩
theorem ds2ah:ds2A_R [1,1,1,1,1,0,1,0,0,1,0,0,1,1,1,0,0] (ds2ae k_12) .normal (fun z_=>∃(k_13:ds2ag_c k_7 z 0),z_=ds2ag k_13):=by
  have⟨hz⟩:=id k_12
  exact rn_ev (yty.enf tabD2 1) ds2A_h mixed _ none [] [] 1 (fun j M=>by kernel_rfl) A0 ⟨⟨hz,Nat.zero_le _⟩,rfl⟩
set_option maxRecDepth 100000 in
theorem ds2ai (hlt:r<64):ds2A_R [1,1,1,1,1,0,1,0,0,1,0,0,1,1,1,0,1,0,0] (ds2ag k_13) .normal (fun z_=>∃(k_13:ds2ag_c k_7 (rdD2 Y r z) (r+1)),z_=ds2ag k_13):=by
  have⟨hu,hN,hl⟩:=id k_1
  have⟨hA,hc3,hB,hm⟩:=id k_2
  have⟨hy,hp,hk⟩:=id k_4
  have⟨hY,hYl,hi,hc4⟩:=id k_7
  have⟨hz,hr⟩:=id k_13
  exact rn_ev (yty.enf tabD2 1) ds2A_h mixed _ none [none,some (.bool true),none,none,none,none,none,none,none,none,none,none,none,none,none,none,none,none,none,none,none,none,none,none,none,none,none,none,some (.int .u64 (Y.getD r 0)),none,none,none,none,none,none,some (.agg (wA .u64 8 [z.a,z.b,z.c,z.d,z.e,z.f,z.g,z.g])),none,none,none,none,some (.agg (wA .u64 8 [z.a,z.b,z.c,z.d,z.e,z.f,z.f,z.g])),none,none,none,none,some (.agg (wA .u64 8 [z.a,z.b,z.c,z.d,z.e,z.e,z.f,z.g])),none,none,none,none,some (.agg (wA .u64 8 [z.a,z.b,z.c,z.d,z.d,z.e,z.f,z.g])),none,none,none,none,some (.agg (wA .u64 8 [z.a,z.b,z.c,z.c,z.d,z.e,z.f,z.g])),none,none,none,none,some (.agg (wA .u64 8 [z.a,z.b,z.b,z.c,z.d,z.e,z.f,z.g])),none,none,none,none,some (.agg (wA .u64 8 [z.a,z.a,z.b,z.c,z.d,z.e,z.f,z.g])),none,none,none,none,some (.agg (wA .u64 8 [z.a,z.a,z.b,z.c,(cu2 (IntKind.u64.wrap (z.d+(IntKind.u64.wrap ((IntKind.u64.wrap ((IntKind.u64.wrap ((IntKind.u64.wrap (z.h+(dmx2 1 z.e)))+(cu2 (bits .xor .u64 (bits .and .u64 z.e z.f) (bits .and .u64 (bits .xor .u64 18446744073709551615 z.e) z.g)))))+((kL5.getD (Int.toNat (r:Int)) 0) / 2 ^ (32))))+(Y.getD r 0)))))),z.e,z.f,z.g])),none,some (.agg (wA .u64 8 [(cu2 (IntKind.u64.wrap ((IntKind.u64.wrap ((IntKind.u64.wrap ((IntKind.u64.wrap ((IntKind.u64.wrap (z.h+(dmx2 1 z.e)))+(cu2 (bits .xor .u64 (bits .and .u64 z.e z.f) (bits .and .u64 (bits .xor .u64 18446744073709551615 z.e) z.g)))))+((kL5.getD (Int.toNat (r:Int)) 0) / 2 ^ (32))))+(Y.getD r 0)))+(IntKind.u64.wrap ((dmx2 0 z.a)+(bits .xor .u64 (bits .xor .u64 (bits .and .u64 z.a z.b) (bits .and .u64 z.a z.c)) (bits .and .u64 z.b z.c))))))),z.a,z.b,z.c,(cu2 (IntKind.u64.wrap (z.d+(IntKind.u64.wrap ((IntKind.u64.wrap ((IntKind.u64.wrap ((IntKind.u64.wrap (z.h+(dmx2 1 z.e)))+(cu2 (bits .xor .u64 (bits .and .u64 z.e z.f) (bits .and .u64 (bits .xor .u64 18446744073709551615 z.e) z.g)))))+((kL5.getD (Int.toNat (r:Int)) 0) / 2 ^ (32))))+(Y.getD r 0)))))),z.e,z.f,z.g])),some (.int .i64 ((r+1:Nat):Int))] [(7,(decide ((r:Int)<64))=true),(0,bdN 4 8),(2,bdN 5 8),(4,bdN 4 8),(4,bdN 6 8),(8,bdN 0 8),(2,bdN 1 8),(4,bdN 0 8),(2,bdN 2 8),(6,bdN 1 8),(2,bdN 2 8),(8,bdN 7 8),(4,bdN 4 8),(2,((wA .i64 14 [32,64,2,13,22,6,11,25,7,18,3,17,19,10])=qC2∧(0:Int)≤1∧(1:Int)<4)),(6,((wA .i64 14 [32,64,2,13,22,6,11,25,7,18,3,17,19,10])=qC2)),(4,(0≤(r:Int)∧(r:Int)<80)),(6,((0:Int)≤32)),(6,((0:Int)≤(r:Int)∧((r:Int):Int)<(i:Int))),(0,(((wA .u64 c4 Y)[(0+Int.toNat (r:Int)*1)]? =some (.int .u64 (Y.getD r 0)))∧(Y.getD r 0)=(Y.getD r 0))),(6,bdN 0 8),(2,((wA .i64 14 [32,64,2,13,22,6,11,25,7,18,3,17,19,10])=qC2∧(0:Int)≤0∧(0:Int)<4)),(18,bdN 6 8),(2,bdN 7 8),(0,(7<(wA .u64 8 [z.a,z.b,z.c,z.d,z.e,z.f,z.g,z.h]).size∧(wA .u64 8 [z.a,z.b,z.c,z.d,z.e,z.f,z.g,z.h]).setIfInBounds (7) (.int .u64 z.g)=(wA .u64 8 [z.a,z.b,z.c,z.d,z.e,z.f,z.g,z.g]))),(16,bdN 5 8),(2,bdN 6 8),(0,(6<(wA .u64 8 [z.a,z.b,z.c,z.d,z.e,z.f,z.g,z.g]).size∧(wA .u64 8 [z.a,z.b,z.c,z.d,z.e,z.f,z.g,z.g]).setIfInBounds (6) (.int .u64 z.f)=(wA .u64 8 [z.a,z.b,z.c,z.d,z.e,z.f,z.f,z.g]))),(16,bdN 4 8),(2,bdN 5 8),(0,(5<(wA .u64 8 [z.a,z.b,z.c,z.d,z.e,z.f,z.f,z.g]).size∧(wA .u64 8 [z.a,z.b,z.c,z.d,z.e,z.f,z.f,z.g]).setIfInBounds (5) (.int .u64 z.e)=(wA .u64 8 [z.a,z.b,z.c,z.d,z.e,z.e,z.f,z.g]))),(16,bdN 3 8),(2,bdN 4 8),(0,(4<(wA .u64 8 [z.a,z.b,z.c,z.d,z.e,z.e,z.f,z.g]).size∧(wA .u64 8 [z.a,z.b,z.c,z.d,z.e,z.e,z.f,z.g]).setIfInBounds (4) (.int .u64 z.d)=(wA .u64 8 [z.a,z.b,z.c,z.d,z.d,z.e,z.f,z.g]))),(16,bdN 2 8),(2,bdN 3 8),(0,(3<(wA .u64 8 [z.a,z.b,z.c,z.d,z.d,z.e,z.f,z.g]).size∧(wA .u64 8 [z.a,z.b,z.c,z.d,z.d,z.e,z.f,z.g]).setIfInBounds (3) (.int .u64 z.c)=(wA .u64 8 [z.a,z.b,z.c,z.c,z.d,z.e,z.f,z.g]))),(16,bdN 1 8),(2,bdN 2 8),(0,(2<(wA .u64 8 [z.a,z.b,z.c,z.c,z.d,z.e,z.f,z.g]).size∧(wA .u64 8 [z.a,z.b,z.c,z.c,z.d,z.e,z.f,z.g]).setIfInBounds (2) (.int .u64 z.b)=(wA .u64 8 [z.a,z.b,z.b,z.c,z.d,z.e,z.f,z.g]))),(16,bdN 0 8),(2,bdN 1 8),(0,(1<(wA .u64 8 [z.a,z.b,z.b,z.c,z.d,z.e,z.f,z.g]).size∧(wA .u64 8 [z.a,z.b,z.b,z.c,z.d,z.e,z.f,z.g]).setIfInBounds (1) (.int .u64 z.a)=(wA .u64 8 [z.a,z.a,z.b,z.c,z.d,z.e,z.f,z.g]))),(12,bdN 4 8),(6,((wA .i64 14 [32,64,2,13,22,6,11,25,7,18,3,17,19,10])=qC2)),(0,bdN 4 8),(0,(4<(wA .u64 8 [z.a,z.a,z.b,z.c,z.d,z.e,z.f,z.g]).size∧(wA .u64 8 [z.a,z.a,z.b,z.c,z.d,z.e,z.f,z.g]).setIfInBounds (4) (.int .u64 (cu2 (IntKind.u64.wrap (z.d+(IntKind.u64.wrap ((IntKind.u64.wrap ((IntKind.u64.wrap ((IntKind.u64.wrap (z.h+(dmx2 1 z.e)))+(cu2 (bits .xor .u64 (bits .and .u64 z.e z.f) (bits .and .u64 (bits .xor .u64 18446744073709551615 z.e) z.g)))))+((kL5.getD (Int.toNat (r:Int)) 0) / 2 ^ (32))))+(Y.getD r 0)))))))=(wA .u64 8 [z.a,z.a,z.b,z.c,(cu2 (IntKind.u64.wrap (z.d+(IntKind.u64.wrap ((IntKind.u64.wrap ((IntKind.u64.wrap ((IntKind.u64.wrap (z.h+(dmx2 1 z.e)))+(cu2 (bits .xor .u64 (bits .and .u64 z.e z.f) (bits .and .u64 (bits .xor .u64 18446744073709551615 z.e) z.g)))))+((kL5.getD (Int.toNat (r:Int)) 0) / 2 ^ (32))))+(Y.getD r 0)))))),z.e,z.f,z.g]))),(8,((wA .i64 14 [32,64,2,13,22,6,11,25,7,18,3,17,19,10])=qC2)),(0,bdN 0 8),(0,(0<(wA .u64 8 [z.a,z.a,z.b,z.c,(cu2 (IntKind.u64.wrap (z.d+(IntKind.u64.wrap ((IntKind.u64.wrap ((IntKind.u64.wrap ((IntKind.u64.wrap (z.h+(dmx2 1 z.e)))+(cu2 (bits .xor .u64 (bits .and .u64 z.e z.f) (bits .and .u64 (bits .xor .u64 18446744073709551615 z.e) z.g)))))+((kL5.getD (Int.toNat (r:Int)) 0) / 2 ^ (32))))+(Y.getD r 0)))))),z.e,z.f,z.g]).size∧(wA .u64 8 [z.a,z.a,z.b,z.c,(cu2 (IntKind.u64.wrap (z.d+(IntKind.u64.wrap ((IntKind.u64.wrap ((IntKind.u64.wrap ((IntKind.u64.wrap (z.h+(dmx2 1 z.e)))+(cu2 (bits .xor .u64 (bits .and .u64 z.e z.f) (bits .and .u64 (bits .xor .u64 18446744073709551615 z.e) z.g)))))+((kL5.getD (Int.toNat (r:Int)) 0) / 2 ^ (32))))+(Y.getD r 0)))))),z.e,z.f,z.g]).setIfInBounds (0) (.int .u64 (cu2 (IntKind.u64.wrap ((IntKind.u64.wrap ((IntKind.u64.wrap ((IntKind.u64.wrap ((IntKind.u64.wrap (z.h+(dmx2 1 z.e)))+(cu2 (bits .xor .u64 (bits .and .u64 z.e z.f) (bits .and .u64 (bits .xor .u64 18446744073709551615 z.e) z.g)))))+((kL5.getD (Int.toNat (r:Int)) 0) / 2 ^ (32))))+(Y.getD r 0)))+(IntKind.u64.wrap ((dmx2 0 z.a)+(bits .xor .u64 (bits .xor .u64 (bits .and .u64 z.a z.b) (bits .and .u64 z.a z.c)) (bits .and .u64 z.b z.c))))))))=(wA .u64 8 [(cu2 (IntKind.u64.wrap ((IntKind.u64.wrap ((IntKind.u64.wrap ((IntKind.u64.wrap ((IntKind.u64.wrap (z.h+(dmx2 1 z.e)))+(cu2 (bits .xor .u64 (bits .and .u64 z.e z.f) (bits .and .u64 (bits .xor .u64 18446744073709551615 z.e) z.g)))))+((kL5.getD (Int.toNat (r:Int)) 0) / 2 ^ (32))))+(Y.getD r 0)))+(IntKind.u64.wrap ((dmx2 0 z.a)+(bits .xor .u64 (bits .xor .u64 (bits .and .u64 z.a z.b) (bits .and .u64 z.a z.c)) (bits .and .u64 z.b z.c))))))),z.a,z.b,z.c,(cu2 (IntKind.u64.wrap (z.d+(IntKind.u64.wrap ((IntKind.u64.wrap ((IntKind.u64.wrap ((IntKind.u64.wrap (z.h+(dmx2 1 z.e)))+(cu2 (bits .xor .u64 (bits .and .u64 z.e z.f) (bits .and .u64 (bits .xor .u64 18446744073709551615 z.e) z.g)))))+((kL5.getD (Int.toNat (r:Int)) 0) / 2 ^ (32))))+(Y.getD r 0)))))),z.e,z.f,z.g]))),(3,(IntKind.i64.wrap ((r:Int)+1))=((r+1:Nat):Int))] 1 (fun j M=>by kernel_rfl) (A1 (decide_eq_true (by omega)) (A1 (bdd rfl) (A1 (bdd rfl) (A1 (bdd rfl) (A1 (bdd rfl) (A1 (bdd rfl) (A1 (bdd rfl) (A1 (bdd rfl) (A1 (bdd rfl) (A1 (bdd rfl) (A1 (bdd rfl) (A1 (bdd rfl) (A1 (bdd rfl) (A1 ⟨rfl,by decide,by decide⟩ (A1 rfl (A1 (by(try simp only[Int.toNat_natCast,wA_size]);omega) (A1 (by decide) (A1 (by(try simp only[Int.toNat_natCast,wA_size]);omega) (A1 ⟨(wA_get (by omega) (by omega)),rfl⟩ (A1 (bdd rfl) (A1 ⟨rfl,by decide,by decide⟩ (A1 (bdd rfl) (A1 (bdd rfl) (A1 ⟨by rw[wA_size];omega,rfl⟩ (A1 (bdd rfl) (A1 (bdd rfl) (A1 ⟨by rw[wA_size];omega,rfl⟩ (A1 (bdd rfl) (A1 (bdd rfl) (A1 ⟨by rw[wA_size];omega,rfl⟩ (A1 (bdd rfl) (A1 (bdd rfl) (A1 ⟨by rw[wA_size];omega,rfl⟩ (A1 (bdd rfl) (A1 (bdd rfl) (A1 ⟨by rw[wA_size];omega,rfl⟩ (A1 (bdd rfl) (A1 (bdd rfl) (A1 ⟨by rw[wA_size];omega,rfl⟩ (A1 (bdd rfl) (A1 (bdd rfl) (A1 ⟨by rw[wA_size];omega,rfl⟩ (A1 (bdd rfl) (A1 rfl (A1 (bdd rfl) (A1 ⟨by rw[wA_size];omega,rfl⟩ (A1 rfl (A1 (bdd rfl) (A1 ⟨by rw[wA_size];omega,rfl⟩ (A1 (wi64 (by omega)) A0)))))))))))))))))))))))))))))))))))))))))))))))))) ⟨⟨by rw[hz];rfl,by omega⟩,rfl⟩
structure ds2aj_c (_:ds2d_c k_4 i c4 Y) (z:S8) (r:Nat):Prop where
  hz:z=itD2 Y y r
  hr:r=64
variable {k_14:ds2aj_c k_7 z r}
abbrev ds2aj (_:ds2aj_c k_7 z r):FS:=⟨false,235,[(2,.pointer (some ⟨1,0,none⟩)),(5,.int .i64 4),(6,.pointer (some ⟨2,0,none⟩)),(8,.slice (some ⟨3,0,none⟩) m c3),(9,.int .i64 (p:Int)),(10,.slice (some ⟨4,0,none⟩) i c4),(14,.pointer (some ⟨5,0,none⟩)),(15,.int .i64 (r:Int))],[(a,t),((wA .i64 14 [32,64,2,13,22,6,11,25,7,18,3,17,19,10]),(50,(0,0))),((wA .u64 8 [y.a,y.b,y.c,y.d,y.e,y.f,y.g,y.h]),(59,(0,0))),((wA .u8 c3 A),(5,(0,0))),((wA .u64 c4 Y),(58,(0,0))),((wA .u64 8 [z.a,z.b,z.c,z.d,z.e,z.f,z.g,z.h]),(59,(0,0)))]⟩
theorem ds2ak (hge:¬ r<64):ds2A_R [1,1,1,1,1,0,1,0,0,1,0,0,1,1,1,0,1,0,0] (ds2ag k_13) (.exit 8) (fun z_=>∃(k_14:ds2aj_c k_7 z r),z_=ds2aj k_14):=by
  have⟨hu,hN,hl⟩:=id k_1
  have⟨hA,hc3,hB,hm⟩:=id k_2
  have⟨hy,hp,hk⟩:=id k_4
  have⟨hY,hYl,hi,hc4⟩:=id k_7
  have⟨hz,hr⟩:=id k_13
  exact rn_ev (yty.enf tabD2 1) ds2A_h mixed _ none [none,some (.bool false)] [(7,(decide ((r:Int)<64))=false)] 0 (fun j M=>by kernel_rfl) (A1 (decide_eq_false (by omega)) A0) ⟨⟨hz,by omega⟩,rfl⟩
theorem ds2al:ds2A_R [1,1,1,1,1,0,1,0,0,1,0,0,1,1,1,0,1] (ds2ag k_13) .normal (fun z_=>∃(z:S8) (r:Nat) (k_14:ds2aj_c k_7 z r),z_=ds2aj k_14):=by
  refine rn_loop (k:=8) (w:= [1,1,1,1,1,0,1,0,0,1,0,0,1,1,1,0,1]) (by kernel_rfl) (fun n_ z_=>∃(z:S8) (r:Nat) (k_13:ds2ag_c k_7 z r),n_=64 - r∧z_=ds2ag k_13) _ ⟨_,_,k_13,rfl,rfl⟩ ?_
  rintro n_ _ ⟨z,r,k_13,hn_,rfl⟩
  have⟨hu,hN,hl⟩:=k_1
  have⟨hA,hc3,hB,hm⟩:=k_2
  have⟨hy,hp,hk⟩:=k_4
  have⟨hY,hYl,hi,hc4⟩:=k_7
  have⟨hz,hr⟩:=k_13
  by_cases hlt:r<64
  · exact(ds2ai hlt).x fun _ ⟨k_13,e_⟩=> .inl ⟨rfl,64 - (r+1),by omega,⟨_,_,k_13,rfl,e_⟩⟩
  · exact(ds2ak hlt).x fun _ ⟨k_14,e_⟩=> .inr ⟨rfl,⟨z,r,k_14,e_⟩⟩
theorem ds2am:ds2A_R [1,1,1,1,1,0,1,0,0,1,0,0,1,1,1,0] (ds2ae k_12) .normal (fun z_=>∃(z1:S8) (r1:Nat) (k_14:ds2aj_c k_7 z1 r1),z_=ds2aj k_14):=by
  refine rn_seq (w:= [1,1,1,1,1,0,1,0,0,1,0,0,1,1,1,0]) (by kernel_rfl) ds2ah ?_
  rintro _ ⟨k_13,rfl⟩
  exact ds2al
structure ds2an_c (_:ds2F_c k_1 A m c3 Bn) (y:S8) (k p:Nat):Prop where
  hy:y=hsD2 A (k+1)
  hp:p=64*k
  hk:k<Bn
variable {k_15:ds2an_c k_2 y k p}
abbrev ds2an (_:ds2an_c k_2 y k p):FS:=⟨false,235,[(2,.pointer (some ⟨1,0,none⟩)),(5,.int .i64 4),(6,.pointer (some ⟨2,0,none⟩)),(8,.slice (some ⟨3,0,none⟩) m c3),(9,.int .i64 (p:Int))],[(a,t),((wA .i64 14 [32,64,2,13,22,6,11,25,7,18,3,17,19,10]),(50,(0,0))),((wA .u64 8 [y.a,y.b,y.c,y.d,y.e,y.f,y.g,y.h]),(59,(0,0))),((wA .u8 c3 A),(5,(0,0)))]⟩
set_option maxRecDepth 100000 in
theorem ds2ao:ds2A_R [1,1,1,1,1,0,1,0,0,1,0,0,1,1,1,1] (ds2aj k_14) .normal (fun z_=>∃(k_15:ds2an_c k_2 (adD2 y z) k p),z_=ds2an k_15):=by
  have⟨hu,hN,hl⟩:=id k_1
  have⟨hA,hc3,hB,hm⟩:=id k_2
  have⟨hy,hp,hk⟩:=id k_4
  have⟨hY,hYl,hi,hc4⟩:=id k_7
  have⟨hz,hr⟩:=id k_14
  exact rn_ev (yty.enf tabD2 1) ds2A_h mixed _ (some (false,4)) [none,none,none,none,some (.agg (wA .u64 8 [(cu2 (IntKind.u64.wrap (y.a+z.a))),y.b,y.c,y.d,y.e,y.f,y.g,y.h])),none,none,none,none,none,some (.agg (wA .u64 8 [(cu2 (IntKind.u64.wrap (y.a+z.a))),(cu2 (IntKind.u64.wrap (y.b+z.b))),y.c,y.d,y.e,y.f,y.g,y.h])),none,none,none,none,none,some (.agg (wA .u64 8 [(cu2 (IntKind.u64.wrap (y.a+z.a))),(cu2 (IntKind.u64.wrap (y.b+z.b))),(cu2 (IntKind.u64.wrap (y.c+z.c))),y.d,y.e,y.f,y.g,y.h])),none,none,none,none,none,some (.agg (wA .u64 8 [(cu2 (IntKind.u64.wrap (y.a+z.a))),(cu2 (IntKind.u64.wrap (y.b+z.b))),(cu2 (IntKind.u64.wrap (y.c+z.c))),(cu2 (IntKind.u64.wrap (y.d+z.d))),y.e,y.f,y.g,y.h])),none,none,none,none,none,some (.agg (wA .u64 8 [(cu2 (IntKind.u64.wrap (y.a+z.a))),(cu2 (IntKind.u64.wrap (y.b+z.b))),(cu2 (IntKind.u64.wrap (y.c+z.c))),(cu2 (IntKind.u64.wrap (y.d+z.d))),(cu2 (IntKind.u64.wrap (y.e+z.e))),y.f,y.g,y.h])),none,none,none,none,none,some (.agg (wA .u64 8 [(cu2 (IntKind.u64.wrap (y.a+z.a))),(cu2 (IntKind.u64.wrap (y.b+z.b))),(cu2 (IntKind.u64.wrap (y.c+z.c))),(cu2 (IntKind.u64.wrap (y.d+z.d))),(cu2 (IntKind.u64.wrap (y.e+z.e))),(cu2 (IntKind.u64.wrap (y.f+z.f))),y.g,y.h])),none,none,none,none,none,some (.agg (wA .u64 8 [(cu2 (IntKind.u64.wrap (y.a+z.a))),(cu2 (IntKind.u64.wrap (y.b+z.b))),(cu2 (IntKind.u64.wrap (y.c+z.c))),(cu2 (IntKind.u64.wrap (y.d+z.d))),(cu2 (IntKind.u64.wrap (y.e+z.e))),(cu2 (IntKind.u64.wrap (y.f+z.f))),(cu2 (IntKind.u64.wrap (y.g+z.g))),y.h])),none,none,none,none,none,some (.agg (wA .u64 8 [(cu2 (IntKind.u64.wrap (y.a+z.a))),(cu2 (IntKind.u64.wrap (y.b+z.b))),(cu2 (IntKind.u64.wrap (y.c+z.c))),(cu2 (IntKind.u64.wrap (y.d+z.d))),(cu2 (IntKind.u64.wrap (y.e+z.e))),(cu2 (IntKind.u64.wrap (y.f+z.f))),(cu2 (IntKind.u64.wrap (y.g+z.g))),(cu2 (IntKind.u64.wrap (y.h+z.h)))]))] [(12,bdN 0 8),(4,bdN 0 8),(4,((wA .i64 14 [32,64,2,13,22,6,11,25,7,18,3,17,19,10])=qC2)),(0,bdN 0 8),(0,(0<(wA .u64 8 [y.a,y.b,y.c,y.d,y.e,y.f,y.g,y.h]).size∧(wA .u64 8 [y.a,y.b,y.c,y.d,y.e,y.f,y.g,y.h]).setIfInBounds (0) (.int .u64 (cu2 (IntKind.u64.wrap (y.a+z.a))))=(wA .u64 8 [(cu2 (IntKind.u64.wrap (y.a+z.a))),y.b,y.c,y.d,y.e,y.f,y.g,y.h]))),(16,bdN 1 8),(4,bdN 1 8),(4,((wA .i64 14 [32,64,2,13,22,6,11,25,7,18,3,17,19,10])=qC2)),(0,bdN 1 8),(0,(1<(wA .u64 8 [(cu2 (IntKind.u64.wrap (y.a+z.a))),y.b,y.c,y.d,y.e,y.f,y.g,y.h]).size∧(wA .u64 8 [(cu2 (IntKind.u64.wrap (y.a+z.a))),y.b,y.c,y.d,y.e,y.f,y.g,y.h]).setIfInBounds (1) (.int .u64 (cu2 (IntKind.u64.wrap (y.b+z.b))))=(wA .u64 8 [(cu2 (IntKind.u64.wrap (y.a+z.a))),(cu2 (IntKind.u64.wrap (y.b+z.b))),y.c,y.d,y.e,y.f,y.g,y.h]))),(16,bdN 2 8),(4,bdN 2 8),(4,((wA .i64 14 [32,64,2,13,22,6,11,25,7,18,3,17,19,10])=qC2)),(0,bdN 2 8),(0,(2<(wA .u64 8 [(cu2 (IntKind.u64.wrap (y.a+z.a))),(cu2 (IntKind.u64.wrap (y.b+z.b))),y.c,y.d,y.e,y.f,y.g,y.h]).size∧(wA .u64 8 [(cu2 (IntKind.u64.wrap (y.a+z.a))),(cu2 (IntKind.u64.wrap (y.b+z.b))),y.c,y.d,y.e,y.f,y.g,y.h]).setIfInBounds (2) (.int .u64 (cu2 (IntKind.u64.wrap (y.c+z.c))))=(wA .u64 8 [(cu2 (IntKind.u64.wrap (y.a+z.a))),(cu2 (IntKind.u64.wrap (y.b+z.b))),(cu2 (IntKind.u64.wrap (y.c+z.c))),y.d,y.e,y.f,y.g,y.h]))),(16,bdN 3 8),(4,bdN 3 8),(4,((wA .i64 14 [32,64,2,13,22,6,11,25,7,18,3,17,19,10])=qC2)),(0,bdN 3 8),(0,(3<(wA .u64 8 [(cu2 (IntKind.u64.wrap (y.a+z.a))),(cu2 (IntKind.u64.wrap (y.b+z.b))),(cu2 (IntKind.u64.wrap (y.c+z.c))),y.d,y.e,y.f,y.g,y.h]).size∧(wA .u64 8 [(cu2 (IntKind.u64.wrap (y.a+z.a))),(cu2 (IntKind.u64.wrap (y.b+z.b))),(cu2 (IntKind.u64.wrap (y.c+z.c))),y.d,y.e,y.f,y.g,y.h]).setIfInBounds (3) (.int .u64 (cu2 (IntKind.u64.wrap (y.d+z.d))))=(wA .u64 8 [(cu2 (IntKind.u64.wrap (y.a+z.a))),(cu2 (IntKind.u64.wrap (y.b+z.b))),(cu2 (IntKind.u64.wrap (y.c+z.c))),(cu2 (IntKind.u64.wrap (y.d+z.d))),y.e,y.f,y.g,y.h]))),(16,bdN 4 8),(4,bdN 4 8),(4,((wA .i64 14 [32,64,2,13,22,6,11,25,7,18,3,17,19,10])=qC2)),(0,bdN 4 8),(0,(4<(wA .u64 8 [(cu2 (IntKind.u64.wrap (y.a+z.a))),(cu2 (IntKind.u64.wrap (y.b+z.b))),(cu2 (IntKind.u64.wrap (y.c+z.c))),(cu2 (IntKind.u64.wrap (y.d+z.d))),y.e,y.f,y.g,y.h]).size∧(wA .u64 8 [(cu2 (IntKind.u64.wrap (y.a+z.a))),(cu2 (IntKind.u64.wrap (y.b+z.b))),(cu2 (IntKind.u64.wrap (y.c+z.c))),(cu2 (IntKind.u64.wrap (y.d+z.d))),y.e,y.f,y.g,y.h]).setIfInBounds (4) (.int .u64 (cu2 (IntKind.u64.wrap (y.e+z.e))))=(wA .u64 8 [(cu2 (IntKind.u64.wrap (y.a+z.a))),(cu2 (IntKind.u64.wrap (y.b+z.b))),(cu2 (IntKind.u64.wrap (y.c+z.c))),(cu2 (IntKind.u64.wrap (y.d+z.d))),(cu2 (IntKind.u64.wrap (y.e+z.e))),y.f,y.g,y.h]))),(16,bdN 5 8),(4,bdN 5 8),(4,((wA .i64 14 [32,64,2,13,22,6,11,25,7,18,3,17,19,10])=qC2)),(0,bdN 5 8),(0,(5<(wA .u64 8 [(cu2 (IntKind.u64.wrap (y.a+z.a))),(cu2 (IntKind.u64.wrap (y.b+z.b))),(cu2 (IntKind.u64.wrap (y.c+z.c))),(cu2 (IntKind.u64.wrap (y.d+z.d))),(cu2 (IntKind.u64.wrap (y.e+z.e))),y.f,y.g,y.h]).size∧(wA .u64 8 [(cu2 (IntKind.u64.wrap (y.a+z.a))),(cu2 (IntKind.u64.wrap (y.b+z.b))),(cu2 (IntKind.u64.wrap (y.c+z.c))),(cu2 (IntKind.u64.wrap (y.d+z.d))),(cu2 (IntKind.u64.wrap (y.e+z.e))),y.f,y.g,y.h]).setIfInBounds (5) (.int .u64 (cu2 (IntKind.u64.wrap (y.f+z.f))))=(wA .u64 8 [(cu2 (IntKind.u64.wrap (y.a+z.a))),(cu2 (IntKind.u64.wrap (y.b+z.b))),(cu2 (IntKind.u64.wrap (y.c+z.c))),(cu2 (IntKind.u64.wrap (y.d+z.d))),(cu2 (IntKind.u64.wrap (y.e+z.e))),(cu2 (IntKind.u64.wrap (y.f+z.f))),y.g,y.h]))),(16,bdN 6 8),(4,bdN 6 8),(4,((wA .i64 14 [32,64,2,13,22,6,11,25,7,18,3,17,19,10])=qC2)),(0,bdN 6 8),(0,(6<(wA .u64 8 [(cu2 (IntKind.u64.wrap (y.a+z.a))),(cu2 (IntKind.u64.wrap (y.b+z.b))),(cu2 (IntKind.u64.wrap (y.c+z.c))),(cu2 (IntKind.u64.wrap (y.d+z.d))),(cu2 (IntKind.u64.wrap (y.e+z.e))),(cu2 (IntKind.u64.wrap (y.f+z.f))),y.g,y.h]).size∧(wA .u64 8 [(cu2 (IntKind.u64.wrap (y.a+z.a))),(cu2 (IntKind.u64.wrap (y.b+z.b))),(cu2 (IntKind.u64.wrap (y.c+z.c))),(cu2 (IntKind.u64.wrap (y.d+z.d))),(cu2 (IntKind.u64.wrap (y.e+z.e))),(cu2 (IntKind.u64.wrap (y.f+z.f))),y.g,y.h]).setIfInBounds (6) (.int .u64 (cu2 (IntKind.u64.wrap (y.g+z.g))))=(wA .u64 8 [(cu2 (IntKind.u64.wrap (y.a+z.a))),(cu2 (IntKind.u64.wrap (y.b+z.b))),(cu2 (IntKind.u64.wrap (y.c+z.c))),(cu2 (IntKind.u64.wrap (y.d+z.d))),(cu2 (IntKind.u64.wrap (y.e+z.e))),(cu2 (IntKind.u64.wrap (y.f+z.f))),(cu2 (IntKind.u64.wrap (y.g+z.g))),y.h]))),(16,bdN 7 8),(4,bdN 7 8),(4,((wA .i64 14 [32,64,2,13,22,6,11,25,7,18,3,17,19,10])=qC2)),(0,bdN 7 8),(0,(7<(wA .u64 8 [(cu2 (IntKind.u64.wrap (y.a+z.a))),(cu2 (IntKind.u64.wrap (y.b+z.b))),(cu2 (IntKind.u64.wrap (y.c+z.c))),(cu2 (IntKind.u64.wrap (y.d+z.d))),(cu2 (IntKind.u64.wrap (y.e+z.e))),(cu2 (IntKind.u64.wrap (y.f+z.f))),(cu2 (IntKind.u64.wrap (y.g+z.g))),y.h]).size∧(wA .u64 8 [(cu2 (IntKind.u64.wrap (y.a+z.a))),(cu2 (IntKind.u64.wrap (y.b+z.b))),(cu2 (IntKind.u64.wrap (y.c+z.c))),(cu2 (IntKind.u64.wrap (y.d+z.d))),(cu2 (IntKind.u64.wrap (y.e+z.e))),(cu2 (IntKind.u64.wrap (y.f+z.f))),(cu2 (IntKind.u64.wrap (y.g+z.g))),y.h]).setIfInBounds (7) (.int .u64 (cu2 (IntKind.u64.wrap (y.h+z.h))))=(wA .u64 8 [(cu2 (IntKind.u64.wrap (y.a+z.a))),(cu2 (IntKind.u64.wrap (y.b+z.b))),(cu2 (IntKind.u64.wrap (y.c+z.c))),(cu2 (IntKind.u64.wrap (y.d+z.d))),(cu2 (IntKind.u64.wrap (y.e+z.e))),(cu2 (IntKind.u64.wrap (y.f+z.f))),(cu2 (IntKind.u64.wrap (y.g+z.g))),(cu2 (IntKind.u64.wrap (y.h+z.h)))])))] 5 (fun j M=>by kernel_rfl) (A1 (bdd rfl) (A1 (bdd rfl) (A1 rfl (A1 (bdd rfl) (A1 ⟨by rw[wA_size];omega,rfl⟩ (A1 (bdd rfl) (A1 (bdd rfl) (A1 rfl (A1 (bdd rfl) (A1 ⟨by rw[wA_size];omega,rfl⟩ (A1 (bdd rfl) (A1 (bdd rfl) (A1 rfl (A1 (bdd rfl) (A1 ⟨by rw[wA_size];omega,rfl⟩ (A1 (bdd rfl) (A1 (bdd rfl) (A1 rfl (A1 (bdd rfl) (A1 ⟨by rw[wA_size];omega,rfl⟩ (A1 (bdd rfl) (A1 (bdd rfl) (A1 rfl (A1 (bdd rfl) (A1 ⟨by rw[wA_size];omega,rfl⟩ (A1 (bdd rfl) (A1 (bdd rfl) (A1 rfl (A1 (bdd rfl) (A1 ⟨by rw[wA_size];omega,rfl⟩ (A1 (bdd rfl) (A1 (bdd rfl) (A1 rfl (A1 (bdd rfl) (A1 ⟨by rw[wA_size];omega,rfl⟩ (A1 (bdd rfl) (A1 (bdd rfl) (A1 rfl (A1 (bdd rfl) (A1 ⟨by rw[wA_size];omega,rfl⟩ A0)))))))))))))))))))))))))))))))))))))))) ⟨⟨by rw[hz,hY,hr,hi,hp,hy];rfl,hp,hk⟩,rfl⟩
theorem ds2aq:ds2A_R [1,1,1,1,1,0,1,0,0,1,0,0] (ds2N k_4) .normal (fun z_=>∃(i11 c411:Nat) (Y11:List Int) (z13:S8) (r13:Nat) (k_15:ds2an_c k_2 (adD2 y z13) k p),z_=ds2an k_15):=by
  refine rn_seq (w:= [1,1,1,1,1,0,1,0,0,1,0,0]) (by kernel_rfl) ds28 ?_
  rintro _ rfl
  refine rn_seq (w:= [1,1,1,1,1,0,1,0,0,1,0,0,1]) (by kernel_rfl) ds2ad ?_
  rintro _ ⟨i11,c411,Y11,k_7,rfl⟩
  refine rn_seq (w:= [1,1,1,1,1,0,1,0,0,1,0,0,1,1]) (by kernel_rfl) ds2af ?_
  rintro _ ⟨k_12,rfl⟩
  refine rn_seq (w:= [1,1,1,1,1,0,1,0,0,1,0,0,1,1,1]) (by kernel_rfl) ds2am ?_
  rintro _ ⟨z13,r13,k_14,rfl⟩
  exact(ds2ao).mono fun _ ⟨k_15,e_⟩=>⟨i11,c411,Y11,z13,r13,k_15,e_⟩
theorem ds2ap:ds2A_R [1,1,1,1,1,0,1,0,0,1,0] (ds2N k_4) .normal (fun z_=>∃(i11 c411:Nat) (Y11:List Int) (z13:S8) (r13:Nat) (k_15:ds2an_c k_2 (adD2 y z13) k p),z_=ds2an k_15):=rn_block (k:=3) (w:= [1,1,1,1,1,0,1,0,0,1,0]) (by kernel_rfl) ds2aq
theorem ds2ar:ds2A_R [1,1,1,1,1,0,1,0,0,1,1] (ds2an k_15) .normal (fun z_=>∃(k_3:ds2M_c k_2 y (k+1) (p+64)),z_=ds2M k_3):=by
  have⟨hu,hN,hl⟩:=id k_1
  have⟨hA,hc3,hB,hm⟩:=id k_2
  have⟨hy,hp,hk⟩:=id k_15
  exact rn_ev (yty.enf tabD2 1) ds2A_h mixed _ none [none,some (.int .i64 ((p+64:Nat):Int))] [(7,(IntKind.i64.wrap ((p:Int)+64))=((p+64:Nat):Int))] 1 (fun j M=>by kernel_rfl) (A1 (wi64 (by omega)) A0) ⟨⟨hy,by omega,by omega⟩,rfl⟩
theorem ds2as (hlt:k<Bn):ds2A_R [1,1,1,1,1,0,1,0,0] (ds2M k_3) .normal (fun z_=>∃(i111 c4111:Nat) (Y111:List Int) (z131:S8) (r131:Nat) (k_3:ds2M_c k_2 (adD2 y z131) (k+1) (p+64)),z_=ds2M k_3):=by
  refine rn_seq (w:= [1,1,1,1,1,0,1,0,0]) (by kernel_rfl) (ds26 hlt) ?_
  rintro _ ⟨k_4,rfl⟩
  refine rn_seq (w:= [1,1,1,1,1,0,1,0,0,1]) (by kernel_rfl) ds2ap ?_
  rintro _ ⟨i111,c4111,Y111,z131,r131,k_15,rfl⟩
  exact(ds2ar).mono fun _ ⟨k_3,e_⟩=>⟨i111,c4111,Y111,z131,r131,k_3,e_⟩
theorem ds2at:ds2A_R [1,1,1,1,1,0,1] (ds2M k_3) .normal (fun z_=>∃(y:S8) (k p:Nat) (k_5:ds2X_c k_2 y k p),z_=ds2X k_5):=by
  refine rn_loop (k:=2) (w:= [1,1,1,1,1,0,1]) (by kernel_rfl) (fun n_ z_=>∃(y:S8) (k p:Nat) (k_3:ds2M_c k_2 y k p),n_=Bn - k∧z_=ds2M k_3) _ ⟨_,_,_,k_3,rfl,rfl⟩ ?_
  rintro n_ _ ⟨y,k,p,k_3,hn_,rfl⟩
  have⟨hu,hN,hl⟩:=k_1
  have⟨hA,hc3,hB,hm⟩:=k_2
  have⟨hy,hp,hk⟩:=k_3
  by_cases hlt:k<Bn
  · exact(ds2as hlt).x fun _ ⟨i111_,c4111_,Y111_,z131_,r131_,k_3,e_⟩=> .inl ⟨rfl,Bn - (k+1),by omega,⟨_,_,_,k_3,rfl,e_⟩⟩
  · exact(rn_seqx (w:= [1,1,1,1,1,0,1,0,0]) (by kernel_rfl) (ds27 hlt) (by simp)).x fun _ ⟨k_5,e_⟩=> .inr ⟨rfl,⟨y,k,p,k_5,e_⟩⟩
theorem ds2au:ds2A_R [1,1,1,1,1,0] (ds2F k_2) .normal (fun z_=>∃(y1:S8) (k1 p1:Nat) (k_5:ds2X_c k_2 y1 k1 p1),z_=ds2X k_5):=by
  refine rn_seq (w:= [1,1,1,1,1,0]) (by kernel_rfl) ds25 ?_
  rintro _ ⟨k_3,rfl⟩
  exact ds2at
abbrev ds2ba (_:ds2X_c k_2 y k p):FS:=⟨false,235,[(5,.int .i64 4),(6,.pointer (some ⟨2,0,none⟩)),(22,.slice none 0 0)],[(a,t),((wA .i64 14 [32,64,2,13,22,6,11,25,7,18,3,17,19,10]),(50,(0,0))),((wA .u64 8 [y.a,y.b,y.c,y.d,y.e,y.f,y.g,y.h]),(59,(0,0))),((wA .u8 c3 A),(5,(0,0)))]⟩
theorem ds2bb:ds2A_R [1,1,1,1,1,1,0] (ds2X k_5) .normal (fun z_=>z_=ds2ba k_5):=rn_ev (yty.enf tabD2 1) ds2A_h mixed _ none [] [] 1 (fun j M=>by kernel_rfl) A0 rfl
abbrev ds2bc (_:ds2X_c k_2 y k p):FS:=⟨false,235,[(5,.int .i64 4),(6,.pointer (some ⟨2,0,none⟩)),(22,.slice none 0 0),(23,.int .i64 0)],[(a,t),((wA .i64 14 [32,64,2,13,22,6,11,25,7,18,3,17,19,10]),(50,(0,0))),((wA .u64 8 [y.a,y.b,y.c,y.d,y.e,y.f,y.g,y.h]),(59,(0,0))),((wA .u8 c3 A),(5,(0,0)))]⟩
theorem ds2bd:ds2A_R [1,1,1,1,1,1,1,0,0] (ds2ba k_5) .normal (fun z_=>z_=ds2bc k_5):=rn_ev (yty.enf tabD2 1) ds2A_h mixed _ none [] [] 1 (fun j M=>by kernel_rfl) A0 rfl
structure ds2be_c (_:ds2X_c k_2 y k p) (i q c4:Nat) (Y:List Int):Prop where
  hY:Y=oL2 [y.a,y.b,y.c,y.d,y.e,y.f,y.g,y.h] q
  hYl:Y.length=q
  hq:q=4*i
  hi:1≤i∧i≤8
  hc4:q≤c4
variable {q:Nat} {k_16:ds2be_c k_5 i q c4 Y}
abbrev ds2be (_:ds2be_c k_5 i q c4 Y):FS:=⟨false,235,[(5,.int .i64 4),(6,.pointer (some ⟨2,0,none⟩)),(22,.slice (some ⟨4,0,none⟩) q c4),(23,.int .i64 (i:Int))],[(a,t),((wA .i64 14 [32,64,2,13,22,6,11,25,7,18,3,17,19,10]),(50,(0,0))),((wA .u64 8 [y.a,y.b,y.c,y.d,y.e,y.f,y.g,y.h]),(59,(0,0))),((wA .u8 c3 A),(5,(0,0))),((wA .u8 c4 Y),(5,(0,0)))]⟩
structure ds2bf_c (_:ds2X_c k_2 y k p) (i q c4:Nat) (Y:List Int):Prop where
  hY:Y=oL2 [y.a,y.b,y.c,y.d,y.e,y.f,y.g,y.h] q
  hYl:Y.length=q
  hq:q=4*i
  hi:1≤i∧i<8
  hc4:q≤c4
variable {k_17:ds2bf_c k_5 i q c4 Y}
abbrev ds2bf (_:ds2bf_c k_5 i q c4 Y):FS:=⟨false,235,[(5,.int .i64 4),(6,.pointer (some ⟨2,0,none⟩)),(22,.slice (some ⟨4,0,none⟩) q c4),(23,.int .i64 (i:Int))],[(a,t),((wA .i64 14 [32,64,2,13,22,6,11,25,7,18,3,17,19,10]),(50,(0,0))),((wA .u64 8 [y.a,y.b,y.c,y.d,y.e,y.f,y.g,y.h]),(59,(0,0))),((wA .u8 c3 A),(5,(0,0))),((wA .u8 c4 Y),(5,(0,0)))]⟩
structure ds2bg_c (_:ds2X_c k_2 y k p) (i q c4:Nat) (Y:List Int):Prop where
  hY:Y=oL2 [y.a,y.b,y.c,y.d,y.e,y.f,y.g,y.h] q
  hYl:Y.length=q
  hq:q=4*i
  hi:i=8
  hc4:q≤c4
variable {k_18:ds2bg_c k_5 i q c4 Y}
abbrev ds2bg (_:ds2bg_c k_5 i q c4 Y):FS:=⟨false,235,[(5,.int .i64 4),(6,.pointer (some ⟨2,0,none⟩)),(22,.slice (some ⟨4,0,none⟩) q c4),(23,.int .i64 (i:Int))],[(a,t),((wA .i64 14 [32,64,2,13,22,6,11,25,7,18,3,17,19,10]),(50,(0,0))),((wA .u64 8 [y.a,y.b,y.c,y.d,y.e,y.f,y.g,y.h]),(59,(0,0))),((wA .u8 c3 A),(5,(0,0))),((wA .u8 c4 Y),(5,(0,0)))]⟩
theorem ds2bh:ds2A_R [1,1,1,1,1,1,1,0,1,0,0,0] (ds2bc k_5) .normal (fun z_=>z_=ds2bc k_5):=by
  have⟨hu,hN,hl⟩:=id k_1
  have⟨hA,hc3,hB,hm⟩:=id k_2
  have⟨hy,hp,hk⟩:=id k_5
  exact rn_ev (yty.enf tabD2 1) ds2A_h mixed _ none [some (.bool true)] [(3,true=true)] 0 (fun j M=>by kernel_rfl) (A1 (by first|rfl|assumption) A0) rfl
theorem ds2bi (hlt:i<8):ds2A_R [1,1,1,1,1,1,1,0,1,0,0,0] (ds2be k_16) .normal (fun z_=>∃(k_17:ds2bf_c k_5 i q c4 Y),z_=ds2bf k_17):=by
  have⟨hu,hN,hl⟩:=id k_1
  have⟨hA,hc3,hB,hm⟩:=id k_2
  have⟨hy,hp,hk⟩:=id k_5
  have⟨hY,hYl,hq,hi,hc4⟩:=id k_16
  exact rn_ev (yty.enf tabD2 1) ds2A_h mixed _ none [some (.bool true)] [(3,(decide ((i:Int)<8))=true)] 0 (fun j M=>by kernel_rfl) (A1 (decide_eq_true (by omega)) A0) ⟨⟨hY,hYl,hq,by omega,hc4⟩,rfl⟩
theorem ds2bj (hge:¬ i<8):ds2A_R [1,1,1,1,1,1,1,0,1,0,0,0] (ds2be k_16) (.exit 14) (fun z_=>∃(k_18:ds2bg_c k_5 i q c4 Y),z_=ds2bg k_18):=by
  have⟨hu,hN,hl⟩:=id k_1
  have⟨hA,hc3,hB,hm⟩:=id k_2
  have⟨hy,hp,hk⟩:=id k_5
  have⟨hY,hYl,hq,hi,hc4⟩:=id k_16
  exact rn_ev (yty.enf tabD2 1) ds2A_h mixed _ none [some (.bool false)] [(3,(decide ((i:Int)<8))=false)] 0 (fun j M=>by kernel_rfl) (A1 (decide_eq_false (by omega)) A0) ⟨⟨hY,hYl,hq,by omega,hc4⟩,rfl⟩
abbrev ds2bk (_:ds2X_c k_2 y k p):FS:=⟨false,235,[(5,.int .i64 4),(6,.pointer (some ⟨2,0,none⟩)),(22,.slice none 0 0),(23,.int .i64 0),(24,.int .i64 3)],[(a,t),((wA .i64 14 [32,64,2,13,22,6,11,25,7,18,3,17,19,10]),(50,(0,0))),((wA .u64 8 [y.a,y.b,y.c,y.d,y.e,y.f,y.g,y.h]),(59,(0,0))),((wA .u8 c3 A),(5,(0,0)))]⟩
theorem ds2bl:ds2A_R [1,1,1,1,1,1,1,0,1,0,0,1,0,0,0] (ds2bc k_5) .normal (fun z_=>z_=ds2bk k_5):=rn_ev (yty.enf tabD2 1) ds2A_h mixed _ none [] [] 3 (fun j M=>by kernel_rfl) A0 rfl
structure ds2bm_c (_:ds2X_c k_2 y k p) (i q c4:Nat) (Y:List Int) (r:Nat):Prop where
  hY:Y=oL2 [y.a,y.b,y.c,y.d,y.e,y.f,y.g,y.h] q
  hYl:Y.length=q
  hq:q=4*i+r
  hi:i<8
  hc4:q≤c4
  hr:r≤4
variable {k_19:ds2bm_c k_5 i q c4 Y r}
abbrev ds2bm (_:ds2bm_c k_5 i q c4 Y r):FS:=⟨false,235,[(5,.int .i64 4),(6,.pointer (some ⟨2,0,none⟩)),(22,.slice (some ⟨4,0,none⟩) q c4),(23,.int .i64 (i:Int)),(24,.int .i64 (3 - (r:Int)))],[(a,t),((wA .i64 14 [32,64,2,13,22,6,11,25,7,18,3,17,19,10]),(50,(0,0))),((wA .u64 8 [y.a,y.b,y.c,y.d,y.e,y.f,y.g,y.h]),(59,(0,0))),((wA .u8 c3 A),(5,(0,0))),((wA .u8 c4 Y),(5,(0,0)))]⟩
structure ds2bn_c (_:ds2X_c k_2 y k p) (i q c4:Nat) (Y:List Int) (r:Nat):Prop where
  hY:Y=oL2 [y.a,y.b,y.c,y.d,y.e,y.f,y.g,y.h] q
  hYl:Y.length=q
  hq:q=4*i+r
  hi:i<8
  hc4:q≤c4
  hr:r<4
variable {k_20:ds2bn_c k_5 i q c4 Y r}
abbrev ds2bn (_:ds2bn_c k_5 i q c4 Y r):FS:=⟨false,235,[(5,.int .i64 4),(6,.pointer (some ⟨2,0,none⟩)),(22,.slice (some ⟨4,0,none⟩) q c4),(23,.int .i64 (i:Int)),(24,.int .i64 (3 - (r:Int)))],[(a,t),((wA .i64 14 [32,64,2,13,22,6,11,25,7,18,3,17,19,10]),(50,(0,0))),((wA .u64 8 [y.a,y.b,y.c,y.d,y.e,y.f,y.g,y.h]),(59,(0,0))),((wA .u8 c3 A),(5,(0,0))),((wA .u8 c4 Y),(5,(0,0)))]⟩
structure ds2bo_c (_:ds2X_c k_2 y k p) (i q c4:Nat) (Y:List Int) (r:Nat):Prop where
  hY:Y=oL2 [y.a,y.b,y.c,y.d,y.e,y.f,y.g,y.h] q
  hYl:Y.length=q
  hq:q=4*i+r+1
  hi:i<8
  hc4:q≤c4
  hr:r<4
variable {k_21:ds2bo_c k_5 i q c4 Y r}
abbrev ds2bo (_:ds2bo_c k_5 i q c4 Y r):FS:=⟨false,235,[(5,.int .i64 4),(6,.pointer (some ⟨2,0,none⟩)),(22,.slice (some ⟨4,0,none⟩) q c4),(23,.int .i64 (i:Int)),(24,.int .i64 (3 - (r:Int)))],[(a,t),((wA .i64 14 [32,64,2,13,22,6,11,25,7,18,3,17,19,10]),(50,(0,0))),((wA .u64 8 [y.a,y.b,y.c,y.d,y.e,y.f,y.g,y.h]),(59,(0,0))),((wA .u8 c3 A),(5,(0,0))),((wA .u8 c4 Y),(5,(0,0)))]⟩
structure ds2bp_c (_:ds2X_c k_2 y k p) (i q c4:Nat) (Y:List Int) (r:Nat):Prop where
  hY:Y=oL2 [y.a,y.b,y.c,y.d,y.e,y.f,y.g,y.h] q
  hYl:Y.length=q
  hq:q=4*i+4
  hi:i<8
  hc4:q≤c4
  hr:r=4
variable {k_22:ds2bp_c k_5 i q c4 Y r}
abbrev ds2bp (_:ds2bp_c k_5 i q c4 Y r):FS:=⟨false,235,[(5,.int .i64 4),(6,.pointer (some ⟨2,0,none⟩)),(22,.slice (some ⟨4,0,none⟩) q c4),(23,.int .i64 (i:Int)),(24,.int .i64 (3 - (r:Int)))],[(a,t),((wA .i64 14 [32,64,2,13,22,6,11,25,7,18,3,17,19,10]),(50,(0,0))),((wA .u64 8 [y.a,y.b,y.c,y.d,y.e,y.f,y.g,y.h]),(59,(0,0))),((wA .u8 c3 A),(5,(0,0))),((wA .u8 c4 Y),(5,(0,0)))]⟩
theorem ds2bq:ds2A_R [1,1,1,1,1,1,1,0,1,0,0,1,0,0,0] (ds2bf k_17) .normal (fun z_=>∃(k_19:ds2bm_c k_5 i q c4 Y 0),z_=ds2bm k_19):=by
  have⟨hY,hYl,hq,hi,hc4⟩:=id k_17
  exact rn_ev (yty.enf tabD2 1) ds2A_h mixed _ none [] [] 3 (fun j M=>by kernel_rfl) A0 ⟨⟨hY,hYl,hq,hi.2,hc4,Nat.zero_le _⟩,rfl⟩
theorem ds2br:ds2A_R [1,1,1,1,1,1,1,0,1,0,0,1,0,0,1,0,0,0] (ds2bk k_5) .normal (fun z_=>z_=ds2bk k_5):=by
  have⟨hu,hN,hl⟩:=id k_1
  have⟨hA,hc3,hB,hm⟩:=id k_2
  have⟨hy,hp,hk⟩:=id k_5
  exact rn_ev (yty.enf tabD2 1) ds2A_h mixed _ none [some (.bool true)] [(3,true=true)] 0 (fun j M=>by kernel_rfl) (A1 (by first|rfl|assumption) A0) rfl
theorem ds2bs (hlt:r<4):ds2A_R [1,1,1,1,1,1,1,0,1,0,0,1,0,0,1,0,0,0] (ds2bm k_19) .normal (fun z_=>∃(k_20:ds2bn_c k_5 i q c4 Y r),z_=ds2bn k_20):=by
  have⟨hu,hN,hl⟩:=id k_1
  have⟨hA,hc3,hB,hm⟩:=id k_2
  have⟨hy,hp,hk⟩:=id k_5
  have⟨hY,hYl,hq,hi,hc4,hr⟩:=id k_19
  exact rn_ev (yty.enf tabD2 1) ds2A_h mixed _ none [some (.bool true)] [(3,(decide (0≤(3 - (r:Int))))=true)] 0 (fun j M=>by kernel_rfl) (A1 (decide_eq_true (by omega)) A0) ⟨⟨hY,hYl,hq,hi,hc4,hlt⟩,rfl⟩
theorem ds2bt (hge:¬ r<4):ds2A_R [1,1,1,1,1,1,1,0,1,0,0,1,0,0,1,0,0,0] (ds2bm k_19) (.exit 16) (fun z_=>∃(k_22:ds2bp_c k_5 i q c4 Y r),z_=ds2bp k_22):=by
  have⟨hu,hN,hl⟩:=id k_1
  have⟨hA,hc3,hB,hm⟩:=id k_2
  have⟨hy,hp,hk⟩:=id k_5
  have⟨hY,hYl,hq,hi,hc4,hr⟩:=id k_19
  exact rn_ev (yty.enf tabD2 1) ds2A_h mixed _ none [some (.bool false)] [(3,(decide (0≤(3 - (r:Int))))=false)] 0 (fun j M=>by kernel_rfl) (A1 (decide_eq_false (by omega)) A0) ⟨⟨hY,hYl,by omega,hi,hc4,by omega⟩,rfl⟩
theorem ds2bu:ds2A_R [1,1,1,1,1,1,1,0,1,0,0,1,0,0,1,0,0,1,0,0] (ds2bk k_5) .normal (fun z_=>∃(k1:Nat) (k_21:ds2bo_c k_5 0 1 k1 ([IntKind.u8.wrap (y.a / 2 ^ (24))]) 0),z_=ds2bo k_21):=by
  have⟨hu,hN,hl⟩:=id k_1
  have⟨hA,hc3,hB,hm⟩:=id k_2
  have⟨hy,hp,hk⟩:=id k_5
  refine rn_reg (some (true,4)) (by kernel_rfl) fun j c0 ch0=> ?_
  refine rl_appN (yty.enf tabD2 1) apB apB.ht 9 [] [(4,bdN 0 8),(6,((0:Int)≤24))] 1 [(a,t),((wA .i64 14 [32,64,2,13,22,6,11,25,7,18,3,17,19,10]),(50,(0,0))),((wA .u64 8 [y.a,y.b,y.c,y.d,y.e,y.f,y.g,y.h]),(59,(0,0))),((wA .u8 c3 A),(5,(0,0))),((wA .u8 1 [(IntKind.u8.wrap (y.a / 2 ^ (24)))]),(5,(0,0)))] 5 ([IntKind.u8.wrap (y.a / 2 ^ (24))]) (.slice (some ⟨4,0,none⟩) 1 1) (some 233) (by kernel_rfl) (A1 (bdd rfl) (A1 (by decide) A0)) (src_wA (i:=4) rfl rfl (Nat.le_refl 1)) (by simp) (by simp) fun n1 k1 c1_ e1_ hn1 hk1=> ?_
  try simp only[zL] at hn1
  obtain rfl:n1=1:=hn1
  exact rl_end (E:=(yty.enf tabD2 1)) _ [] [] 1 (fun M=>by kernel_rfl) A0 ⟨k1,⟨rfl,rfl,rfl,by omega,by omega,by omega⟩,rfl⟩
theorem ds2bv:ds2A_R [1,1,1,1,1,1,1,0,1,0,0,1,0,0,1,0,0,1,0,0] (ds2bn k_20) .normal (fun z_=>∃(k1:Nat) (k_21:ds2bo_c k_5 i (q+1) k1 (Y ++ [IntKind.u8.wrap (([y.a,y.b,y.c,y.d,y.e,y.f,y.g,y.h].getD i 0) / 2 ^ (min (Int.toNat ((8*(3 - r):Nat):Int)) 64))]) r),z_=ds2bo k_21):=by
  have⟨hu,hN,hl⟩:=id k_1
  have⟨hA,hc3,hB,hm⟩:=id k_2
  have⟨hy,hp,hk⟩:=id k_5
  have⟨hY,hYl,hq,hi,hc4,hr⟩:=id k_20
  refine rn_reg (some (false,5)) (by kernel_rfl) fun j c0 ch0=> ?_
  refine rl_app (yty.enf tabD2 1) apB apB.ht 9 [some (.int .u64 (([y.a,y.b,y.c,y.d,y.e,y.f,y.g,y.h]).getD i 0)),some (.int .i64 ((8*(3 - r):Nat):Int))] [(4,(0≤(i:Int)∧(i:Int)<((8:Nat):Int))),(0,(((wA .u64 8 [y.a,y.b,y.c,y.d,y.e,y.f,y.g,y.h])[(0+Int.toNat (i:Int)*1)]? =some (.int .u64 (([y.a,y.b,y.c,y.d,y.e,y.f,y.g,y.h]).getD i 0)))∧(([y.a,y.b,y.c,y.d,y.e,y.f,y.g,y.h]).getD i 0)=(([y.a,y.b,y.c,y.d,y.e,y.f,y.g,y.h]).getD i 0))),(3,(IntKind.i64.wrap (8*(3 - (r:Int))))=((8*(3 - r):Nat):Int)),(0,(0≤((8*(3 - r):Nat):Int)))] 1 [(a,t),((wA .i64 14 [32,64,2,13,22,6,11,25,7,18,3,17,19,10]),(50,(0,0))),((wA .u64 8 [y.a,y.b,y.c,y.d,y.e,y.f,y.g,y.h]),(59,(0,0))),((wA .u8 c3 A),(5,(0,0))),((wA .u8 c4 Y),(5,(0,0))),((wA .u8 1 [(IntKind.u8.wrap ((([y.a,y.b,y.c,y.d,y.e,y.f,y.g,y.h]).getD i 0) / 2 ^ (min (Int.toNat ((8*(3 - r):Nat):Int)) 64)))]),(5,(0,0)))] 4 q c4 Y ([IntKind.u8.wrap (([y.a,y.b,y.c,y.d,y.e,y.f,y.g,y.h].getD i 0) / 2 ^ (min (Int.toNat ((8*(3 - r):Nat):Int)) 64))]) (.slice (some ⟨5,0,none⟩) 1 1) (some 233) (by kernel_rfl) (A1 (by(try simp only[Int.toNat_natCast,wA_size]);omega) (A1 ⟨(wA_get (by omega) (by omega)),rfl⟩ (A1 (wi64 (by omega)) (A1 (by(try simp only[Int.toNat_natCast,wA_size]);omega) A0)))) (by omega) (by omega) (src_wA (i:=5) rfl rfl (Nat.le_refl 1)) (by simp only[List.length_cons,List.length_nil];omega) fun n1 k1 M1 c1_ e1_ hn1 hk1=> ?_
  try simp only[zL] at hn1
  obtain rfl:n1=q+1:=by omega
  exact rl_end (E:=(yty.enf tabD2 1)) _ [] [] 1 (fun M=>by kernel_rfl) A0 ⟨k1,⟨by rw[hY,hq];exact(oL2_step _ hr).symm,by simp only[List.length_append,List.length_cons,List.length_nil];omega,by omega,hi,by omega,hr⟩,rfl⟩
theorem ds2bw:ds2A_R [1,1,1,1,1,1,1,0,1,0,0,1,0,0,1,0,0,1,0] (ds2bk k_5) .normal (fun z_=>∃(k1:Nat) (k_21:ds2bo_c k_5 0 1 k1 ([IntKind.u8.wrap (y.a / 2 ^ (24))]) 0),z_=ds2bo k_21):=rn_block (k:=17) (w:= [1,1,1,1,1,1,1,0,1,0,0,1,0,0,1,0,0,1,0]) (by kernel_rfl) ds2bu
theorem ds2bx:ds2A_R [1,1,1,1,1,1,1,0,1,0,0,1,0,0,1,0,0,1,0] (ds2bn k_20) .normal (fun z_=>∃(k1:Nat) (k_21:ds2bo_c k_5 i (q+1) k1 (Y ++ [IntKind.u8.wrap (([y.a,y.b,y.c,y.d,y.e,y.f,y.g,y.h].getD i 0) / 2 ^ (min (Int.toNat ((8*(3 - r):Nat):Int)) 64))]) r),z_=ds2bo k_21):=rn_block (k:=17) (w:= [1,1,1,1,1,1,1,0,1,0,0,1,0,0,1,0,0,1,0]) (by kernel_rfl) ds2bv
theorem ds2by:ds2A_R [1,1,1,1,1,1,1,0,1,0,0,1,0,0,1,0,0,1,1] (ds2bo k_21) .normal (fun z_=>∃(k_19:ds2bm_c k_5 i q c4 Y (r+1)),z_=ds2bm k_19):=by
  have⟨hu,hN,hl⟩:=id k_1
  have⟨hA,hc3,hB,hm⟩:=id k_2
  have⟨hy,hp,hk⟩:=id k_5
  have⟨hY,hYl,hq,hi,hc4,hr⟩:=id k_21
  exact rn_ev (yty.enf tabD2 1) ds2A_h mixed _ none [some (.int .i64 (3 - ((r+1:Nat):Int)))] [(3,(IntKind.i64.wrap ((3 - (r:Int)) - 1))=(3 - ((r+1:Nat):Int)))] 1 (fun j M=>by kernel_rfl) (A1 (wi64 (by omega)) A0) ⟨⟨hY,hYl,by omega,hi,hc4,by omega⟩,rfl⟩
theorem ds2bz:ds2A_R [1,1,1,1,1,1,1,0,1,0,0,1,0,0,1,0,0] (ds2bk k_5) .normal (fun z_=>∃(k11:Nat) (k_19:ds2bm_c k_5 0 1 k11 ([IntKind.u8.wrap (y.a / 2 ^ (24))]) (0+1)),z_=ds2bm k_19):=by
  refine rn_seq (w:= [1,1,1,1,1,1,1,0,1,0,0,1,0,0,1,0,0]) (by kernel_rfl) ds2br ?_
  rintro _ rfl
  refine rn_seq (w:= [1,1,1,1,1,1,1,0,1,0,0,1,0,0,1,0,0,1]) (by kernel_rfl) ds2bw ?_
  rintro _ ⟨k11,k_21,rfl⟩
  exact(ds2by).mono fun _ ⟨k_19,e_⟩=>⟨k11,k_19,e_⟩
theorem ds2ca (hlt:r<4):ds2A_R [1,1,1,1,1,1,1,0,1,0,0,1,0,0,1,0,0] (ds2bm k_19) .normal (fun z_=>∃(k11:Nat) (k_19:ds2bm_c k_5 i (q+1) k11 (Y ++ [IntKind.u8.wrap (([y.a,y.b,y.c,y.d,y.e,y.f,y.g,y.h].getD i 0) / 2 ^ (min (Int.toNat ((8*(3 - r):Nat):Int)) 64))]) (r+1)),z_=ds2bm k_19):=by
  refine rn_seq (w:= [1,1,1,1,1,1,1,0,1,0,0,1,0,0,1,0,0]) (by kernel_rfl) (ds2bs hlt) ?_
  rintro _ ⟨k_20,rfl⟩
  refine rn_seq (w:= [1,1,1,1,1,1,1,0,1,0,0,1,0,0,1,0,0,1]) (by kernel_rfl) ds2bx ?_
  rintro _ ⟨k11,k_21,rfl⟩
  exact(ds2by).mono fun _ ⟨k_19,e_⟩=>⟨k11,k_19,e_⟩
theorem ds2cb:ds2A_R [1,1,1,1,1,1,1,0,1,0,0,1,0,0,1] (ds2bk k_5) .normal (fun z_=>∃(i q c4:Nat) (Y:List Int) (r:Nat) (k_22:ds2bp_c k_5 i q c4 Y r),z_=ds2bp k_22):=by
  refine rn_loop (k:=16) (w:= [1,1,1,1,1,1,1,0,1,0,0,1,0,0,1]) (by kernel_rfl) (fun n_ z_=>(n_=4 - 0∧z_=ds2bk k_5)∨∃(i q c4:Nat) (Y:List Int) (r:Nat) (k_19:ds2bm_c k_5 i q c4 Y r),n_=4 - r∧z_=ds2bm k_19) _ (.inl ⟨rfl,rfl⟩) ?_
  rintro n_ _ (⟨hn_,rfl⟩|⟨i,q,c4,Y,r,k_19,hn_,rfl⟩)
  · have ⟨hu, hN, hl⟩ := k_1
    have⟨hA,hc3,hB,hm⟩:=k_2
    have⟨hy,hp,hk⟩:=k_5
    have hlt:0<4:=by omega
    exact ds2bz.x fun _ ⟨k11_,k_19,e_⟩=> .inl ⟨rfl,4 - (0+1),by omega,.inr ⟨_,_,_,_,_,k_19,rfl,e_⟩⟩
  · have ⟨hu, hN, hl⟩ := k_1
    have⟨hA,hc3,hB,hm⟩:=k_2
    have⟨hy,hp,hk⟩:=k_5
    have⟨hY,hYl,hq,hi,hc4,hr⟩:=k_19
    by_cases hlt:r<4
    · exact(ds2ca hlt).x fun _ ⟨k11_,k_19,e_⟩=> .inl ⟨rfl,4 - (r+1),by omega,.inr ⟨_,_,_,_,_,k_19,rfl,e_⟩⟩
    · exact(rn_seqx (w:= [1,1,1,1,1,1,1,0,1,0,0,1,0,0,1,0,0]) (by kernel_rfl) (ds2bt hlt) (by simp)).x fun _ ⟨k_22,e_⟩=> .inr ⟨rfl,⟨i,q,c4,Y,r,k_22,e_⟩⟩
theorem ds2cc:ds2A_R [1,1,1,1,1,1,1,0,1,0,0,1,0,0,1] (ds2bm k_19) .normal (fun z_=>∃(q c4:Nat) (Y:List Int) (r:Nat) (k_22:ds2bp_c k_5 i q c4 Y r),z_=ds2bp k_22):=by
  refine rn_loop (k:=16) (w:= [1,1,1,1,1,1,1,0,1,0,0,1,0,0,1]) (by kernel_rfl) (fun n_ z_=>∃(q c4:Nat) (Y:List Int) (r:Nat) (k_19:ds2bm_c k_5 i q c4 Y r),n_=4 - r∧z_=ds2bm k_19) _ ⟨_,_,_,_,k_19,rfl,rfl⟩ ?_
  rintro n_ _ ⟨q,c4,Y,r,k_19,hn_,rfl⟩
  have⟨hu,hN,hl⟩:=k_1
  have⟨hA,hc3,hB,hm⟩:=k_2
  have⟨hy,hp,hk⟩:=k_5
  have⟨hY,hYl,hq,hi,hc4,hr⟩:=k_19
  by_cases hlt:r<4
  · exact(ds2ca hlt).x fun _ ⟨k11_,k_19,e_⟩=> .inl ⟨rfl,4 - (r+1),by omega,⟨_,_,_,_,k_19,rfl,e_⟩⟩
  · exact(rn_seqx (w:= [1,1,1,1,1,1,1,0,1,0,0,1,0,0,1,0,0]) (by kernel_rfl) (ds2bt hlt) (by simp)).x fun _ ⟨k_22,e_⟩=> .inr ⟨rfl,⟨q,c4,Y,r,k_22,e_⟩⟩
theorem ds2ce:ds2A_R [1,1,1,1,1,1,1,0,1,0,0,1,0,0] (ds2bc k_5) .normal (fun z_=>∃(i1 q1 c41:Nat) (Y1:List Int) (r1:Nat) (k_22:ds2bp_c k_5 i1 q1 c41 Y1 r1),z_=ds2bp k_22):=by
  refine rn_seq (w:= [1,1,1,1,1,1,1,0,1,0,0,1,0,0]) (by kernel_rfl) ds2bl ?_
  rintro _ rfl
  exact ds2cb
theorem ds2cd:ds2A_R [1,1,1,1,1,1,1,0,1,0,0,1,0] (ds2bc k_5) .normal (fun z_=>∃(i1 q1 c41:Nat) (Y1:List Int) (r1:Nat) (k_22:ds2bp_c k_5 i1 q1 c41 Y1 r1),z_=ds2bp k_22):=rn_block (k:=15) (w:= [1,1,1,1,1,1,1,0,1,0,0,1,0]) (by kernel_rfl) ds2ce
theorem ds2cg:ds2A_R [1,1,1,1,1,1,1,0,1,0,0,1,0,0] (ds2bf k_17) .normal (fun z_=>∃(q1 c41:Nat) (Y1:List Int) (r1:Nat) (k_22:ds2bp_c k_5 i q1 c41 Y1 r1),z_=ds2bp k_22):=by
  refine rn_seq (w:= [1,1,1,1,1,1,1,0,1,0,0,1,0,0]) (by kernel_rfl) ds2bq ?_
  rintro _ ⟨k_19,rfl⟩
  exact ds2cc
theorem ds2cf:ds2A_R [1,1,1,1,1,1,1,0,1,0,0,1,0] (ds2bf k_17) .normal (fun z_=>∃(q1 c41:Nat) (Y1:List Int) (r1:Nat) (k_22:ds2bp_c k_5 i q1 c41 Y1 r1),z_=ds2bp k_22):=rn_block (k:=15) (w:= [1,1,1,1,1,1,1,0,1,0,0,1,0]) (by kernel_rfl) ds2cg
theorem ds2ch:ds2A_R [1,1,1,1,1,1,1,0,1,0,0,1,1] (ds2bp k_22) .normal (fun z_=>∃(k_16:ds2be_c k_5 (i+1) q c4 Y),z_=ds2be k_16):=by
  have⟨hu,hN,hl⟩:=id k_1
  have⟨hA,hc3,hB,hm⟩:=id k_2
  have⟨hy,hp,hk⟩:=id k_5
  have⟨hY,hYl,hq,hi,hc4,hr⟩:=id k_22
  exact rn_ev (yty.enf tabD2 1) ds2A_h mixed _ none [some (.int .i64 ((i+1:Nat):Int))] [(3,(IntKind.i64.wrap ((i:Int)+1))=((i+1:Nat):Int))] 1 (fun j M=>by kernel_rfl) (A1 (wi64 (by omega)) A0) ⟨⟨hY,hYl,by omega,by omega,hc4⟩,rfl⟩
theorem ds2ci:ds2A_R [1,1,1,1,1,1,1,0,1,0,0] (ds2bc k_5) .normal (fun z_=>∃(i11 q11 c411:Nat) (Y11:List Int) (r11:Nat) (k_16:ds2be_c k_5 (i11+1) q11 c411 Y11),z_=ds2be k_16):=by
  refine rn_seq (w:= [1,1,1,1,1,1,1,0,1,0,0]) (by kernel_rfl) ds2bh ?_
  rintro _ rfl
  refine rn_seq (w:= [1,1,1,1,1,1,1,0,1,0,0,1]) (by kernel_rfl) ds2cd ?_
  rintro _ ⟨i11,q11,c411,Y11,r11,k_22,rfl⟩
  exact(ds2ch).mono fun _ ⟨k_16,e_⟩=>⟨i11,q11,c411,Y11,r11,k_16,e_⟩
theorem ds2cj (hlt:i<8):ds2A_R [1,1,1,1,1,1,1,0,1,0,0] (ds2be k_16) .normal (fun z_=>∃(q11 c411:Nat) (Y11:List Int) (r11:Nat) (k_16:ds2be_c k_5 (i+1) q11 c411 Y11),z_=ds2be k_16):=by
  refine rn_seq (w:= [1,1,1,1,1,1,1,0,1,0,0]) (by kernel_rfl) (ds2bi hlt) ?_
  rintro _ ⟨k_17,rfl⟩
  refine rn_seq (w:= [1,1,1,1,1,1,1,0,1,0,0,1]) (by kernel_rfl) ds2cf ?_
  rintro _ ⟨q11,c411,Y11,r11,k_22,rfl⟩
  exact(ds2ch).mono fun _ ⟨k_16,e_⟩=>⟨q11,c411,Y11,r11,k_16,e_⟩
theorem ds2ck:ds2A_R [1,1,1,1,1,1,1,0,1] (ds2bc k_5) .normal (fun z_=>∃(i q c4:Nat) (Y:List Int) (k_18:ds2bg_c k_5 i q c4 Y),z_=ds2bg k_18):=by
  refine rn_loop (k:=14) (w:= [1,1,1,1,1,1,1,0,1]) (by kernel_rfl) (fun n_ z_=>(n_=8 - 0∧z_=ds2bc k_5)∨∃(i q c4:Nat) (Y:List Int) (k_16:ds2be_c k_5 i q c4 Y),n_=8 - i∧z_=ds2be k_16) _ (.inl ⟨rfl,rfl⟩) ?_
  rintro n_ _ (⟨hn_,rfl⟩|⟨i,q,c4,Y,k_16,hn_,rfl⟩)
  · have ⟨hu, hN, hl⟩ := k_1
    have⟨hA,hc3,hB,hm⟩:=k_2
    have⟨hy,hp,hk⟩:=k_5
    have hlt:0<8:=by omega
    exact ds2ci.x fun _ ⟨i11_,q11_,c411_,Y11_,r11_,k_16,e_⟩=> .inl ⟨rfl,8 - (i11_+1),by omega,.inr ⟨_,_,_,_,k_16,rfl,e_⟩⟩
  · have ⟨hu, hN, hl⟩ := k_1
    have⟨hA,hc3,hB,hm⟩:=k_2
    have⟨hy,hp,hk⟩:=k_5
    have⟨hY,hYl,hq,hi,hc4⟩:=k_16
    by_cases hlt:i<8
    · exact(ds2cj hlt).x fun _ ⟨q11_,c411_,Y11_,r11_,k_16,e_⟩=> .inl ⟨rfl,8 - (i+1),by omega,.inr ⟨_,_,_,_,k_16,rfl,e_⟩⟩
    · exact(rn_seqx (w:= [1,1,1,1,1,1,1,0,1,0,0]) (by kernel_rfl) (ds2bj hlt) (by simp)).x fun _ ⟨k_18,e_⟩=> .inr ⟨rfl,⟨i,q,c4,Y,k_18,e_⟩⟩
theorem ds2cl:ds2A_R [1,1,1,1,1,1,1,0] (ds2ba k_5) .normal (fun z_=>∃(i1 q1 c41:Nat) (Y1:List Int) (k_18:ds2bg_c k_5 i1 q1 c41 Y1),z_=ds2bg k_18):=by
  refine rn_seq (w:= [1,1,1,1,1,1,1,0]) (by kernel_rfl) ds2bd ?_
  rintro _ rfl
  exact ds2ck
abbrev ds2cm (_:ds2bg_c k_5 i q c4 Y):FS:=⟨false,235,[(4,.slice (some ⟨4,0,none⟩) q c4)],[(a,t),((wA .i64 14 [32,64,2,13,22,6,11,25,7,18,3,17,19,10]),(50,(0,0))),((wA .u64 8 [y.a,y.b,y.c,y.d,y.e,y.f,y.g,y.h]),(59,(0,0))),((wA .u8 c3 A),(5,(0,0))),((wA .u8 c4 Y),(5,(0,0)))]⟩
theorem ds2cn:ds2A_R [1,1,1,1,1,1,1,1] (ds2bg k_18) .ret (fun z_=>z_=ds2cm k_18):=rn_ev (yty.enf tabD2 1) ds2A_h mixed _ none [] [] 2 (fun j M=>by kernel_rfl) A0 rfl
theorem ds2co':ds2A_R [] (ds2A k_1) .ret (fun z_=>∃(k14:Nat) (y15:S8) (k15 p15 i17 q17 c417:Nat) (Y17:List Int) (k_2:ds2F_c k_1 (ful2 N) ((ful2 N).length) k14 ((ful2 N).length / 64)) (k_5:ds2X_c k_2 y15 k15 p15) (k_18:ds2bg_c k_5 i17 q17 c417 Y17),z_=ds2cm k_18):=by
  refine rn_seq (w:= []) (by kernel_rfl) ds20 ?_
  rintro _ rfl
  refine rn_seq (w:= [1]) (by kernel_rfl) ds21 ?_
  rintro _ rfl
  refine rn_seq (w:= [1,1]) (by kernel_rfl) ds22 ?_
  rintro _ rfl
  refine rn_seq (w:= [1,1,1]) (by kernel_rfl) ds23 ?_
  rintro _ rfl
  refine rn_seq (w:= [1,1,1,1]) (by kernel_rfl) ds24 ?_
  rintro _ ⟨k14,k_2,rfl⟩
  refine rn_seq (w:= [1,1,1,1,1]) (by kernel_rfl) ds2au ?_
  rintro _ ⟨y15,k15,p15,k_5,rfl⟩
  refine rn_seq (w:= [1,1,1,1,1,1]) (by kernel_rfl) ds2bb ?_
  rintro _ rfl
  refine rn_seq (w:= [1,1,1,1,1,1,1]) (by kernel_rfl) ds2cl ?_
  rintro _ ⟨i17,q17,c417,Y17,k_18,rfl⟩
  exact(ds2cn).mono fun _ e_=>⟨k14,y15,k15,p15,i17,q17,c417,Y17,k_2,k_5,k_18,e_⟩
abbrev ds2A_s (a:Array Value) (t:Tq) (bp:Option Addr) (l cp:Nat) (N:List Int) (j:Nat→Value):List Value:=([.agg (wA .i64 14 [32,64,2,13,22,6,11,25,7,18,3,17,19,10]),.slice bp l cp] ++ (JU 233))
abbrev ds2A_m (a:Array Value) (t:Tq) (bp:Option Addr) (l cp:Nat) (N:List Int):List Mb:= [(a,t)]
abbrev ds2cm_s (a:Array Value) (t:Tq) (bp:Option Addr) (l cp:Nat) (N:List Int) (A:List Int) (m c3 Bn:Nat) (y:S8) (k p:Nat) (i q c4:Nat) (Y:List Int) (j:Nat→Value):List Value:=(J j 0 4 ++ ([.slice (some ⟨4,0,none⟩) q c4] ++ (J j 5 230)))
abbrev ds2cm_m (a:Array Value) (t:Tq) (bp:Option Addr) (l cp:Nat) (N:List Int) (A:List Int) (m c3 Bn:Nat) (y:S8) (k p:Nat) (i q c4:Nat) (Y:List Int):List Mb:= [(a,t),((wA .i64 14 [32,64,2,13,22,6,11,25,7,18,3,17,19,10]),(50,(0,0))),((wA .u64 8 [y.a,y.b,y.c,y.d,y.e,y.f,y.g,y.h]),(59,(0,0))),((wA .u8 c3 A),(5,(0,0))),((wA .u8 c4 Y),(5,(0,0)))]
theorem ds2co (a:Array Value) (t:Tq) (bp:Option Addr) (l cp:Nat) (N:List Int) (j:Nat→Value) (hu:SrcOk .u8 [(a,t)] (.slice bp l cp) N) (hN:N.length=l) (hl:l≤1000000000)  :Runs Tryd.prog (cAt [] (bdy Tryd.f32)) ⟨ds2A_s a t bp l cp N j,ds2A_m a t bp l cp N,c0,ch0⟩ (fun e s=>e= .ret∧∃(k14:Nat) (y15:S8) (k15:Nat) (p15:Nat) (i17:Nat) (q17:Nat) (c417:Nat) (Y17:List Int),∃j c ch,(((ful2 N).length)=(ful2 N).length)∧(((ful2 N).length)≤k14)∧(((ful2 N).length)=64*((ful2 N).length / 64))∧(((ful2 N).length)≤2000000000)∧(y15=hsD2 (ful2 N) k15)∧(p15=64*k15)∧(k15=((ful2 N).length / 64))∧(Y17=oL2 [y15.a,y15.b,y15.c,y15.d,y15.e,y15.f,y15.g,y15.h] q17)∧(Y17.length=q17)∧(q17=4*i17)∧(i17=8)∧(q17≤c417)∧s=⟨ds2cm_s a t bp l cp N (ful2 N) ((ful2 N).length) k14 ((ful2 N).length / 64) y15 k15 p15 i17 q17 c417 Y17 j,ds2cm_m a t bp l cp N (ful2 N) ((ful2 N).length) k14 ((ful2 N).length / 64) y15 k15 p15 i17 q17 c417 Y17,c,ch⟩) 1:=by
  refine(Rn.old (ds2co' (k_1:=(⟨hu,hN,hl⟩:ds2A_c a t bp l cp N))) j (by kernel_rfl)).mono ?_
  rintro e s ⟨rfl,_,⟨k14,y15,k15,p15,i17,q17,c417,Y17,k_2,k_5,k_18,rfl⟩,j,c,ch,rfl⟩
  have⟨x_hA,x_hc3,x_hB,x_hm⟩:=k_2
  have⟨x_hy,x_hp,x_hk⟩:=k_5
  have⟨x_hY,x_hYl,x_hq,x_hi,x_hc4⟩:=k_18
  exact⟨rfl,k14,y15,k15,p15,i17,q17,c417,Y17,j,c,ch,x_hA,x_hc3,x_hB,x_hm,x_hy,x_hp,x_hk,x_hY,x_hYl,x_hq,x_hi,x_hc4,by kernel_rfl⟩
end Go.Proofs.YtcfnjcacdmkgbaaDoor

set_option linter.unusedSimpArgs false
set_option linter.unusedVariables false
/-! The document's SHA-2: the sum. -/
namespace Go.Proofs.YtcfnjcacdmkgbaaDoor
open Go.RowKit Go.Ev
variable {c0:Prop} {ch0:List (Option Value)}
structure ds5A_c (a:Array Value) (t:Tq) (bp:Option Addr) (l cp:Nat) (N:List Int):Prop where
  hu:SrcOk .u8 [(a,t)] (.slice bp l cp) N
  hN:N.length=l
  hl:l≤1000000000
variable {a:Array Value} {t:Tq} {bp:Option Addr} {l cp:Nat} {N:List Int} {k_1:ds5A_c a t bp l cp N}
structure ds5F_c (_:ds5A_c a t bp l cp N) (A:List Int) (m c3 Bn:Nat):Prop where
  hA:m=A.length
  hc3:m≤c3
  hB:m=128*Bn
  hm:m≤2000000000
variable {A:List Int} {m c3 Bn:Nat} {k_2:ds5F_c k_1 A m c3 Bn}
structure ds5M_c (_:ds5F_c k_1 A m c3 Bn) (y:S8) (k p:Nat):Prop where
  hy:y=hsD5 A k
  hp:p=128*k
  hk:k≤Bn
variable {y:S8} {k p:Nat} {k_3:ds5M_c k_2 y k p}
structure ds5N_c (_:ds5F_c k_1 A m c3 Bn) (y:S8) (k p:Nat):Prop where
  hy:y=hsD5 A k
  hp:p=128*k
  hk:k<Bn
variable {k_4:ds5N_c k_2 y k p}
structure ds5X_c (_:ds5F_c k_1 A m c3 Bn) (y:S8) (k p:Nat):Prop where
  hy:y=hsD5 A k
  hp:p=128*k
  hk:k=Bn
variable {k_5:ds5X_c k_2 y k p}
structure ds5c_c (_:ds5N_c k_2 y k p) (i c4:Nat) (Y:List Int):Prop where
  hY:Y=spD5 A p (i)
  hYl:Y.length=i
  hi:1≤i∧i≤80
  hc4:i≤c4
variable {i c4:Nat} {Y:List Int} {k_6:ds5c_c k_4 i c4 Y}
structure ds5d_c (_:ds5N_c k_2 y k p) (i c4:Nat) (Y:List Int):Prop where
  hY:Y=spD5 A p (i)
  hYl:Y.length=i
  hi:i=80
  hc4:i≤c4
variable {k_7:ds5d_c k_4 i c4 Y}
structure ds5e_c (_:ds5N_c k_2 y k p) (i c4:Nat) (Y:List Int):Prop where
  hY:Y=spD5 A p (i+1)
  hYl:Y.length=i+1
  hi:i<80
  hc4:i+1≤c4
variable {k_8:ds5e_c k_4 i c4 Y}
structure ds5g_c (_:ds5N_c k_2 y k p) (i c4:Nat) (Y:List Int):Prop where
  hY:Y=spD5 A p (i)
  hYl:Y.length=i
  hi:1≤i∧i<80
  hc4:i≤c4
variable {k_9:ds5g_c k_4 i c4 Y}
structure ds5n_c (_:ds5N_c k_2 y k p) (x:Int):Prop where
  hx:x=xw5 A p 0
variable {x:Int} {k_10:ds5n_c k_4 x}
structure ds5o_c (_:ds5g_c k_4 i c4 Y) (x:Int):Prop where
  hx:x=if i<16 then xw5 A p i else xm5 Y i
variable {k_11:ds5o_c k_9 x}
structure ds5ae_c (_:ds5d_c k_4 i c4 Y) (z:S8):Prop where
  hz:z=y
variable {z:S8} {k_12:ds5ae_c k_7 z}
structure ds5ag_c (_:ds5d_c k_4 i c4 Y) (z:S8) (r:Nat):Prop where
  hz:z=itD5 Y y r
  hr:r≤80
variable {r:Nat} {k_13:ds5ag_c k_7 z r}
structure ds5aj_c (_:ds5d_c k_4 i c4 Y) (z:S8) (r:Nat):Prop where
  hz:z=itD5 Y y r
  hr:r=80
variable {k_14:ds5aj_c k_7 z r}
structure ds5an_c (_:ds5F_c k_1 A m c3 Bn) (y:S8) (k p:Nat):Prop where
  hy:y=hsD5 A (k+1)
  hp:p=128*k
  hk:k<Bn
variable {k_15:ds5an_c k_2 y k p}
structure ds5be_c (_:ds5X_c k_2 y k p) (i q c4:Nat) (Y:List Int):Prop where
  hY:Y=oL5 [y.a,y.b,y.c,y.d,y.e,y.f,y.g,y.h] q
  hYl:Y.length=q
  hq:q=8*i
  hi:1≤i∧i≤8
  hc4:q≤c4
variable {q:Nat} {k_16:ds5be_c k_5 i q c4 Y}
structure ds5bf_c (_:ds5X_c k_2 y k p) (i q c4:Nat) (Y:List Int):Prop where
  hY:Y=oL5 [y.a,y.b,y.c,y.d,y.e,y.f,y.g,y.h] q
  hYl:Y.length=q
  hq:q=8*i
  hi:1≤i∧i<8
  hc4:q≤c4
variable {k_17:ds5bf_c k_5 i q c4 Y}
structure ds5bg_c (_:ds5X_c k_2 y k p) (i q c4:Nat) (Y:List Int):Prop where
  hY:Y=oL5 [y.a,y.b,y.c,y.d,y.e,y.f,y.g,y.h] q
  hYl:Y.length=q
  hq:q=8*i
  hi:i=8
  hc4:q≤c4
variable {k_18:ds5bg_c k_5 i q c4 Y}
structure ds5bm_c (_:ds5X_c k_2 y k p) (i q c4:Nat) (Y:List Int) (r:Nat):Prop where
  hY:Y=oL5 [y.a,y.b,y.c,y.d,y.e,y.f,y.g,y.h] q
  hYl:Y.length=q
  hq:q=8*i+r
  hi:i<8
  hc4:q≤c4
  hr:r≤8
variable {k_19:ds5bm_c k_5 i q c4 Y r}
structure ds5bn_c (_:ds5X_c k_2 y k p) (i q c4:Nat) (Y:List Int) (r:Nat):Prop where
  hY:Y=oL5 [y.a,y.b,y.c,y.d,y.e,y.f,y.g,y.h] q
  hYl:Y.length=q
  hq:q=8*i+r
  hi:i<8
  hc4:q≤c4
  hr:r<8
variable {k_20:ds5bn_c k_5 i q c4 Y r}
structure ds5bo_c (_:ds5X_c k_2 y k p) (i q c4:Nat) (Y:List Int) (r:Nat):Prop where
  hY:Y=oL5 [y.a,y.b,y.c,y.d,y.e,y.f,y.g,y.h] q
  hYl:Y.length=q
  hq:q=8*i+r+1
  hi:i<8
  hc4:q≤c4
  hr:r<8
variable {k_21:ds5bo_c k_5 i q c4 Y r}
structure ds5bp_c (_:ds5X_c k_2 y k p) (i q c4:Nat) (Y:List Int) (r:Nat):Prop where
  hY:Y=oL5 [y.a,y.b,y.c,y.d,y.e,y.f,y.g,y.h] q
  hYl:Y.length=q
  hq:q=8*i+8
  hi:i<8
  hc4:q≤c4
  hr:r=8
variable {k_22:ds5bp_c k_5 i q c4 Y r}
end Go.Proofs.YtcfnjcacdmkgbaaDoor
