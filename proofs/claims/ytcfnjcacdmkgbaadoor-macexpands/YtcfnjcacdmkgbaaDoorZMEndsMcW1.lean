import Derived.Test.YtcfnjcacdmkgbaaDoorZMEndsMcT1
import Derived.Test.YtcfnjcacdmkgbaaDoorZMEndsMcP1
set_option linter.unusedSimpArgs false
set_option linter.unusedVariables false
/-! The document's Expand. -/
namespace Go.Proofs.YtcfnjcacdmkgbaaDoor
open Go.RowKit Go.Ev
variable {c0:Prop} {ch0:List (Option Value)}
theorem tK_bt (B:Array Value) (I:List Int) (i:Nat):∀ x ∈ tK B I i,0≤x∧x<256:=by
  cases i with
  |zero=>exact fun x hx=>by cases hx
  |succ i=>exact hm2_bt _ _
def dzA_h (i:Nat):Hn:=⟨0,[],[],[],[]⟩
abbrev dzA_R (w:List Nat) (S:FS) (e:Exit) (K:FS→Prop):Prop:=Rn Tryd.prog (cAt w (bdy Tryd.f23)) S e K 2000004
structure dzA_c (g0 g1 t1 t2:Tq) (a1 a2:Array Value) (b1 b2:Option Addr) (l1 c1 l2 c2:Nat) (N1 N2:List Int) (n:Nat):Prop where
  hk:BytesOk [(wA .u32 64 kL2,g0),(wA .u64 80 kL5,g1),(a1,t1),(a2,t2)] b1 l1 c1
  hN1:bytesOf [(wA .u32 64 kL2,g0),(wA .u64 80 kL5,g1),(a1,t1),(a2,t2)] b1 l1=N1
  ht:BytesOk [(wA .u32 64 kL2,g0),(wA .u64 80 kL5,g1),(a1,t1),(a2,t2)] b2 l2 c2
  hN2:bytesOf [(wA .u32 64 kL2,g0),(wA .u64 80 kL5,g1),(a1,t1),(a2,t2)] b2 l2=N2
  hl:l1≤10000000∧l2≤10000000
  hn:n≤8160
variable {g0 g1 t1 t2:Tq} {a1 a2:Array Value} {b1 b2:Option Addr} {l1 c1 l2 c2:Nat} {N1 N2:List Int} {n:Nat} {k_1:dzA_c g0 g1 t1 t2 a1 a2 b1 b2 l1 c1 l2 c2 N1 N2 n}
abbrev dzA (_:dzA_c g0 g1 t1 t2 a1 a2 b1 b2 l1 c1 l2 c2 N1 N2 n):FS:=⟨true,49,[(0,.slice b1 l1 c1),(1,.slice b2 l2 c2),(2,.int .i64 (n:Int))],[((wA .u32 64 kL2),g0),((wA .u64 80 kL5),g1),(a1,t1),(a2,t2)]⟩
abbrev dzB (_:dzA_c g0 g1 t1 t2 a1 a2 b1 b2 l1 c1 l2 c2 N1 N2 n):FS:=⟨false,49,[(0,.slice b1 l1 c1),(1,.slice b2 l2 c2),(2,.int .i64 (n:Int))],[((wA .u32 64 kL2),g0),((wA .u64 80 kL5),g1),(a1,t1),(a2,t2)]⟩
theorem dz0:dzA_R [0] (dzA k_1) .normal (fun z_=>z_=dzB k_1):=rn_ev (yty.enm (pDh2 :: tabM3) [mMask] 2000004) dzA_h mixed _ none [] [] 2 (fun j M=>by kernel_rfl) A0 rfl
theorem dz1:dzA_R [1,0] (dzB k_1) .normal (fun z_=>z_=dzB k_1):=by
  have⟨hk,hN1,ht,hN2,hl,hn⟩:=id k_1
  exact rn_ev (yty.enm (pDh2 :: tabM3) [mMask] 2000004) dzA_h mixed _ none [some (.bool false)] [(3,(decide ((n:Int)<0))=false)] 0 (fun j M=>by kernel_rfl) (A1 (decide_eq_false (by omega)) A0) rfl
theorem dz2:dzA_R [1,1,0] (dzB k_1) .normal (fun z_=>z_=dzB k_1):=by
  have⟨hk,hN1,ht,hN2,hl,hn⟩:=id k_1
  exact rn_ev (yty.enm (pDh2 :: tabM3) [mMask] 2000004) dzA_h mixed _ none [some (.bool false)] [(3,(decide (8160<(n:Int)))=false)] 0 (fun j M=>by kernel_rfl) (A1 (decide_eq_false (by omega)) A0) rfl
abbrev dzC (_:dzA_c g0 g1 t1 t2 a1 a2 b1 b2 l1 c1 l2 c2 N1 N2 n):FS:=⟨false,49,[(0,.slice b1 l1 c1),(1,.slice b2 l2 c2),(2,.int .i64 (n:Int)),(8,.slice none 0 0)],[((wA .u32 64 kL2),g0),((wA .u64 80 kL5),g1),(a1,t1),(a2,t2)]⟩
theorem dz3:dzA_R [1,1,1,0] (dzB k_1) .normal (fun z_=>z_=dzC k_1):=rn_ev (yty.enm (pDh2 :: tabM3) [mMask] 2000004) dzA_h mixed _ none [] [] 1 (fun j M=>by kernel_rfl) A0 rfl
abbrev dzD (_:dzA_c g0 g1 t1 t2 a1 a2 b1 b2 l1 c1 l2 c2 N1 N2 n):FS:=⟨false,49,[(0,.slice b1 l1 c1),(1,.slice b2 l2 c2),(2,.int .i64 (n:Int)),(8,.slice none 0 0),(9,.slice none 0 0)],[((wA .u32 64 kL2),g0),((wA .u64 80 kL5),g1),(a1,t1),(a2,t2)]⟩
theorem dz4:dzA_R [1,1,1,1,0] (dzC k_1) .normal (fun z_=>z_=dzD k_1):=rn_ev (yty.enm (pDh2 :: tabM3) [mMask] 2000004) dzA_h mixed _ none [] [] 1 (fun j M=>by kernel_rfl) A0 rfl
abbrev dzE (_:dzA_c g0 g1 t1 t2 a1 a2 b1 b2 l1 c1 l2 c2 N1 N2 n):FS:=⟨false,49,[(0,.slice b1 l1 c1),(1,.slice b2 l2 c2),(2,.int .i64 (n:Int)),(8,.slice none 0 0),(9,.slice none 0 0),(10,.int .i64 0)],[((wA .u32 64 kL2),g0),((wA .u64 80 kL5),g1),(a1,t1),(a2,t2)]⟩
theorem dz5:dzA_R [1,1,1,1,1,0,0] (dzD k_1) .normal (fun z_=>z_=dzE k_1):=rn_ev (yty.enm (pDh2 :: tabM3) [mMask] 2000004) dzA_h mixed _ none [] [] 1 (fun j M=>by kernel_rfl) A0 rfl
structure dzF_c (_:dzA_c g0 g1 t1 t2 a1 a2 b1 b2 l1 c1 l2 c2 N1 N2 n) (i k c5:Nat) (T Y:List Int):Prop where
  hT:T=tK (wA .u8 64 (key2 N1)) N2 ((i - 1) / 32+1)
  hY:Y=okN (wA .u8 64 (key2 N1)) N2 i
  hi:1≤i∧i≤n
  hk5:32≤k
  hc5:i≤c5
variable {i k c5:Nat} {T Y:List Int} {k_2:dzF_c k_1 i k c5 T Y}
abbrev dzF (_:dzF_c k_1 i k c5 T Y):FS:=⟨false,49,[(0,.slice b1 l1 c1),(1,.slice b2 l2 c2),(2,.int .i64 (n:Int)),(8,.slice (some ⟨5,0,none⟩) i c5),(9,.slice (some ⟨4,0,none⟩) 32 k),(10,.int .i64 (i:Int))],[((wA .u32 64 kL2),g0),((wA .u64 80 kL5),g1),(a1,t1),(a2,t2),((wA .u8 k T),(5,(0,0))),((wA .u8 c5 Y),(5,(0,0)))]⟩
structure dzG_c (_:dzA_c g0 g1 t1 t2 a1 a2 b1 b2 l1 c1 l2 c2 N1 N2 n) (i k c5:Nat) (T Y:List Int):Prop where
  hT:T=tK (wA .u8 64 (key2 N1)) N2 ((i - 1) / 32+1)
  hY:Y=okN (wA .u8 64 (key2 N1)) N2 i
  hi:1≤i∧i<n
  hk5:32≤k
  hc5:i≤c5
variable {k_3:dzG_c k_1 i k c5 T Y}
abbrev dzG (_:dzG_c k_1 i k c5 T Y):FS:=⟨false,49,[(0,.slice b1 l1 c1),(1,.slice b2 l2 c2),(2,.int .i64 (n:Int)),(8,.slice (some ⟨5,0,none⟩) i c5),(9,.slice (some ⟨4,0,none⟩) 32 k),(10,.int .i64 (i:Int))],[((wA .u32 64 kL2),g0),((wA .u64 80 kL5),g1),(a1,t1),(a2,t2),((wA .u8 k T),(5,(0,0))),((wA .u8 c5 Y),(5,(0,0)))]⟩
structure dzH_c (_:dzA_c g0 g1 t1 t2 a1 a2 b1 b2 l1 c1 l2 c2 N1 N2 n) (i k c5:Nat) (T Y:List Int):Prop where
  hT:T=tK (wA .u8 64 (key2 N1)) N2 ((i - 1) / 32+1)
  hY:Y=okN (wA .u8 64 (key2 N1)) N2 i
  hi:i=n
  hk5:32≤k
  hc5:i≤c5
variable {k_4:dzH_c k_1 i k c5 T Y}
abbrev dzH (_:dzH_c k_1 i k c5 T Y):FS:=⟨false,49,[(0,.slice b1 l1 c1),(1,.slice b2 l2 c2),(2,.int .i64 (n:Int)),(8,.slice (some ⟨5,0,none⟩) i c5),(9,.slice (some ⟨4,0,none⟩) 32 k),(10,.int .i64 (i:Int))],[((wA .u32 64 kL2),g0),((wA .u64 80 kL5),g1),(a1,t1),(a2,t2),((wA .u8 k T),(5,(0,0))),((wA .u8 c5 Y),(5,(0,0)))]⟩
theorem dz6 (h0n:0<n):dzA_R [1,1,1,1,1,0,1,0,0,0] (dzE k_1) .normal (fun z_=>z_=dzE k_1):=by
  have⟨hk,hN1,ht,hN2,hl,hn⟩:=id k_1
  exact rn_ev (yty.enm (pDh2 :: tabM3) [mMask] 2000004) dzA_h mixed _ none [some (.bool true)] [(5,(decide (0<(n:Int)))=true)] 0 (fun j M=>by kernel_rfl) (A1 (decide_eq_true (by omega)) A0) rfl
theorem dz7 (hlt:i<n):dzA_R [1,1,1,1,1,0,1,0,0,0] (dzF k_2) .normal (fun z_=>∃(k_3:dzG_c k_1 i k c5 T Y),z_=dzG k_3):=by
  have⟨hk,hN1,ht,hN2,hl,hn⟩:=id k_1
  have⟨hT,hY,hi,hk5,hc5⟩:=id k_2
  exact rn_ev (yty.enm (pDh2 :: tabM3) [mMask] 2000004) dzA_h mixed _ none [some (.bool true)] [(5,(decide ((i:Int)<(n:Int)))=true)] 0 (fun j M=>by kernel_rfl) (A1 (decide_eq_true (by omega)) A0) ⟨⟨hT,hY,by omega,hk5,hc5⟩,rfl⟩
theorem dz8 (hge:¬ i<n):dzA_R [1,1,1,1,1,0,1,0,0,0] (dzF k_2) (.exit 0) (fun z_=>∃(k_4:dzH_c k_1 i k c5 T Y),z_=dzH k_4):=by
  have⟨hk,hN1,ht,hN2,hl,hn⟩:=id k_1
  have⟨hT,hY,hi,hk5,hc5⟩:=id k_2
  exact rn_ev (yty.enm (pDh2 :: tabM3) [mMask] 2000004) dzA_h mixed _ none [some (.bool false)] [(5,(decide ((i:Int)<(n:Int)))=false)] 0 (fun j M=>by kernel_rfl) (A1 (decide_eq_false (by omega)) A0) ⟨⟨hT,hY,by omega,hk5,hc5⟩,rfl⟩
abbrev dzI (_:dzA_c g0 g1 t1 t2 a1 a2 b1 b2 l1 c1 l2 c2 N1 N2 n):FS:=⟨false,49,[(0,.slice b1 l1 c1),(1,.slice b2 l2 c2),(2,.int .i64 (n:Int)),(8,.slice none 0 0),(9,.slice none 0 0),(10,.int .i64 0),(23,.bool true)],[((wA .u32 64 kL2),g0),((wA .u64 80 kL5),g1),(a1,t1),(a2,t2)]⟩
theorem dz9:dzA_R [1,1,1,1,1,0,1,0,0,1,0,0,0,0] (dzE k_1) .normal (fun z_=>z_=dzI k_1):=rn_ev (yty.enm (pDh2 :: tabM3) [mMask] 2000004) dzA_h mixed _ none [] [(2,((32:Int)≠0))] 1 (fun j M=>by kernel_rfl) (A1 (by decide) A0) rfl
structure dzJ_c (_:dzA_c g0 g1 t1 t2 a1 a2 b1 b2 l1 c1 l2 c2 N1 N2 n) (k:Nat):Prop where
  hkk:l2+1≤k
variable {k_5:dzJ_c k_1 k}
abbrev dzJ (_:dzJ_c k_1 k):FS:=⟨false,49,[(0,.slice b1 l1 c1),(1,.slice b2 l2 c2),(2,.int .i64 (n:Int)),(8,.slice none 0 0),(9,.slice (some ⟨4,0,none⟩) (l2+1) k),(10,.int .i64 0)],[((wA .u32 64 kL2),g0),((wA .u64 80 kL5),g1),(a1,t1),(a2,t2),((wA .u8 k (N2 ++ [1])),(5,(0,0)))]⟩
structure dzK_c (_:dzA_c g0 g1 t1 t2 a1 a2 b1 b2 l1 c1 l2 c2 N1 N2 n) (k:Nat):Prop where
  hkk:l2≤k
variable {k_6:dzK_c k_1 k}
abbrev dzK (_:dzK_c k_1 k):FS:=⟨false,49,[(0,.slice b1 l1 c1),(1,.slice b2 l2 c2),(2,.int .i64 (n:Int)),(8,.slice none 0 0),(9,.slice (some ⟨4,0,none⟩) l2 k),(10,.int .i64 0)],[((wA .u32 64 kL2),g0),((wA .u64 80 kL5),g1),(a1,t1),(a2,t2),((wA .u8 k N2),(5,(0,0)))]⟩
theorem dza (hl0:0<l2):dzA_R [1,1,1,1,1,0,1,0,0,1,0,0,0,1,0,0] (dzI k_1) .normal (fun z_=>∃(k1:Nat) (k_6:dzK_c k_1 k1),z_=dzK k_6):=by
  have⟨hk,hN1,ht,hN2,hl,hn⟩:=id k_1
  have hNl:N2.length=l2:=by rw[← hN2];exact ht.len
  have hNb:∀ y ∈ N2,0≤y∧y<256:=by rw[← hN2];exact ht.bt
  refine rn_reg none (by kernel_rfl) fun j c0 ch0=> ?_
  refine rl_appN (yty.enm (pDh2 :: tabM3) [mMask] 2000004) apB apB.ht 2 [] [] 2 [((wA .u32 64 kL2),g0),((wA .u64 80 kL5),g1),(a1,t1),(a2,t2)] 4 N2 (.slice b2 l2 c2) (some 26) (by kernel_rfl) A0 (hN2 ▸ ht.src) (by omega) (by omega) fun n1 k1 c1_ e1_ hn1 hk1=> ?_
  try simp only[zL] at hn1
  obtain rfl:n1=l2:=by omega
  exact rl_end (E:=(yty.enm (pDh2 :: tabM3) [mMask] 2000004)) _ [] [] 1 (fun M=>by kernel_rfl) A0 ⟨k1,⟨by omega⟩,rfl⟩
theorem dzb:dzA_R [1,1,1,1,1,0,1,0,0,1,0,0,0,1,0,1,0] (dzK k_6) .normal (fun z_=>∃(k1:Nat) (k_5:dzJ_c k_1 k1),z_=dzJ k_5):=by
  have⟨hk,hN1,ht,hN2,hl,hn⟩:=id k_1
  have⟨hkk⟩:=id k_6
  have hNl:N2.length=l2:=by rw[← hN2];exact ht.len
  have hNb:∀ y ∈ N2,0≤y∧y<256:=by rw[← hN2];exact ht.bt
  refine rn_reg (some (false,5)) (by kernel_rfl) fun j c0 ch0=> ?_
  refine rl_app (yty.enm (pDh2 :: tabM3) [mMask] 2000004) apB apB.ht 6 [] [(4,((32:Int)≠0))] 2 [((wA .u32 64 kL2),g0),((wA .u64 80 kL5),g1),(a1,t1),(a2,t2),((wA .u8 k N2),(5,(0,0))),((wA .u8 1 [1]),(5,(0,0)))] 4 l2 k N2 ([1]) (.slice (some ⟨5,0,none⟩) 1 1) (some 33) (by kernel_rfl) (A1 (by decide) A0) hNl.symm (by omega) (src_wA (i:=5) rfl rfl (Nat.le_refl 1)) (by simp only[List.length_cons,List.length_nil];omega) fun n1 k1 M1 c1_ e1_ hn1 hk1=> ?_
  try simp only[zL] at hn1
  obtain rfl:n1=l2+1:=by omega
  exact rl_endM (E:=(yty.enm (pDh2 :: tabM3) [mMask] 2000004)) (fun M=>⟨false,49,[(0,dn 5 M (al 4 M1 (.slice b1 l1 c1))),(1,dn 5 M (al 4 M1 (.slice b2 l2 c2))),(2,.int .i64 (n:Int)),(8,.slice none 0 0),(9,.slice (some ⟨4,0,none⟩) (l2+1) k1),(10,.int .i64 0)],[((wA .u32 64 kL2),g0),((wA .u64 80 kL5),g1),(a1,t1),(a2,t2),((wA .u8 k1 (N2 ++ ([1]))),(5,(0,0)))]⟩) [] [] 1 (fun M=>by kernel_rfl) A0 fun M=>⟨k1,⟨by omega⟩,(by
    delta dzJ
    rw[al_b hk (Nat.le_of_ble_eq_true rfl),al_b ht (Nat.le_of_ble_eq_true rfl),dn_b hk (Nat.le_of_ble_eq_true rfl),dn_b ht (Nat.le_of_ble_eq_true rfl)]
    try kernel_rfl)⟩
structure dzL_c (_:dzA_c g0 g1 t1 t2 a1 a2 b1 b2 l1 c1 l2 c2 N1 N2 n):Prop where
  hl0:l2=0
variable {k_7:dzL_c k_1}
abbrev dzL (_:dzL_c k_1):FS:=⟨false,49,[(0,.slice b1 l1 c1),(1,.slice b2 l2 c2),(2,.int .i64 (n:Int)),(8,.slice none 0 0),(9,.slice none 0 0),(10,.int .i64 0)],[((wA .u32 64 kL2),g0),((wA .u64 80 kL5),g1),(a1,t1),(a2,t2)]⟩
theorem dzc (hl0:¬ 0<l2):dzA_R [1,1,1,1,1,0,1,0,0,1,0,0,0,1,0,0] (dzI k_1) .normal (fun z_=>∃(k_7:dzL_c k_1),z_=dzL k_7):=by
  have⟨hk,hN1,ht,hN2,hl,hn⟩:=id k_1
  have hNl:N2.length=l2:=by rw[← hN2];exact ht.len
  have hNb:∀ y ∈ N2,0≤y∧y<256:=by rw[← hN2];exact ht.bt
  refine rn_reg none (by kernel_rfl) fun j c0 ch0=> ?_
  refine rl_app0 (yty.enm (pDh2 :: tabM3) [mMask] 2000004) apB apB.ht 2 [] [] 2 [((wA .u32 64 kL2),g0),((wA .u64 80 kL5),g1),(a1,t1),(a2,t2)] (.slice b2 l2 c2) (some 26) (by kernel_rfl) A0 (by have h_:=ht.src;rw[hN2,List.eq_nil_of_length_eq_zero (by omega:N2.length=0)] at h_;exact h_) fun c1_ e1_=> ?_
  exact rl_end (E:=(yty.enm (pDh2 :: tabM3) [mMask] 2000004)) _ [] [] 1 (fun M=>by kernel_rfl) A0 ⟨⟨by omega⟩,rfl⟩
theorem dzd:dzA_R [1,1,1,1,1,0,1,0,0,1,0,0,0,1,0,1,0] (dzL k_7) .normal (fun z_=>∃(k1:Nat) (k_5:dzJ_c k_1 k1),z_=dzJ k_5):=by
  have⟨hk,hN1,ht,hN2,hl,hn⟩:=id k_1
  have⟨hl0⟩:=id k_7
  have hNl:N2.length=l2:=by rw[← hN2];exact ht.len
  have hNb:∀ y ∈ N2,0≤y∧y<256:=by rw[← hN2];exact ht.bt
  have hNe:N2= []:=List.eq_nil_of_length_eq_zero (by omega)
  refine rn_reg (some (true,4)) (by kernel_rfl) fun j c0 ch0=> ?_
  refine rl_appN (yty.enm (pDh2 :: tabM3) [mMask] 2000004) apB apB.ht 6 [] [(4,((32:Int)≠0))] 2 [((wA .u32 64 kL2),g0),((wA .u64 80 kL5),g1),(a1,t1),(a2,t2),((wA .u8 1 [1]),(5,(0,0)))] 5 ([1]) (.slice (some ⟨4,0,none⟩) 1 1) (some 33) (by kernel_rfl) (A1 (by decide) A0) (src_wA (i:=4) rfl rfl (Nat.le_refl 1)) (by simp) (by simp) fun n1 k1 c1_ e1_ hn1 hk1=> ?_
  try simp only[zL] at hn1
  obtain rfl:n1=l2+1:=by omega
  exact rl_endM (E:=(yty.enm (pDh2 :: tabM3) [mMask] 2000004)) (fun M=>⟨false,49,[(0,ov 4 5 M (.slice b1 l1 c1)),(1,ov 4 5 M (.slice b2 l2 c2)),(2,.int .i64 (n:Int)),(8,.slice none 0 0),(9,.slice (some ⟨4,0,none⟩) (l2+1) k1),(10,.int .i64 0)],[((wA .u32 64 kL2),g0),((wA .u64 80 kL5),g1),(a1,t1),(a2,t2),((wA .u8 k1 ([1])),(5,(0,0)))]⟩) [] [] 1 (fun M=>by kernel_rfl) A0 fun M=>⟨k1,⟨by omega⟩,(by
    delta dzJ
    rw[ov_b hk (Nat.le_of_ble_eq_true rfl) (Nat.le_of_ble_eq_true rfl),ov_b ht (Nat.le_of_ble_eq_true rfl) (Nat.le_of_ble_eq_true rfl),hNe]
    try kernel_rfl)⟩
structure dzM_c (_:dzJ_c k_1 k) (S:List Int):Prop where
  hS:S=tK (wA .u8 64 (key2 N1)) N2 1
variable {S:List Int} {k_8:dzM_c k_5 S}
abbrev dzM (_:dzM_c k_5 S):FS:=⟨false,49,[(0,.slice b1 l1 c1),(1,.slice b2 l2 c2),(2,.int .i64 (n:Int)),(8,.slice none 0 0),(10,.int .i64 0),(11,.pointer (some ⟨5,0,none⟩))],[((wA .u32 64 kL2),g0),((wA .u64 80 kL5),g1),(a1,t1),(a2,t2),((wA .u8 k (N2 ++ [1])),(5,(0,0))),((wA .u8 32 S),(25,(0,0)))]⟩
theorem dzf:dzA_R [1,1,1,1,1,0,1,0,0,1,0,0,0,1,0,1,1,0] (dzJ k_5) .normal (fun z_=>∃(k_8:dzM_c k_5 (tK (wA .u8 64 (key2 N1)) N2 1)),z_=dzM k_8):=by
  have⟨hk,hN1,ht,hN2,hl,hn⟩:=id k_1
  have⟨hkk⟩:=id k_5
  have hNl:N2.length=l2:=by rw[← hN2];exact ht.len
  have hNb:∀ y ∈ N2,0≤y∧y<256:=by rw[← hN2];exact ht.bt
  have e1:bytesOf ([(wA .u32 64 kL2,g0),(wA .u64 80 kL5,g1),(a1,t1),(a2,t2)] ++ [(wA .u8 k (N2 ++ [1]),5,(0,0))]) b1 l1=N1:=(BytesOk.app hk).2.trans hN1
  exact rn_ev (yty.enm (pDh2 :: tabM3) [mMask] 2000004) dzA_h mixed (⟨false,49,[(0,.slice b1 l1 c1),(1,.slice b2 l2 c2),(2,.int .i64 (n:Int)),(8,.slice none 0 0),(10,.int .i64 0),(11,.pointer (some ⟨5,0,none⟩))],[((wA .u32 64 kL2),g0),((wA .u64 80 kL5),g1),(a1,t1),(a2,t2),((wA .u8 k (N2 ++ [1])),(5,(0,0))),((wA .u8 32 (hmac2 (bytesOf [((wA .u32 64 kL2),g0),((wA .u64 80 kL5),g1),(a1,t1),(a2,t2),((wA .u8 k (N2 ++ [1])),(5,(0,0)))] b1 l1) (bL (wA .u8 k (N2 ++ [1])) 0 (l2+1)))),(25,(0,0)))]⟩) none [] [(4,((wA .u32 64 kL2)=wA .u32 64 kL2∧(wA .u64 80 kL5)=wA .u64 80 kL5∧BytesOk [((wA .u32 64 kL2),g0),((wA .u64 80 kL5),g1),(a1,t1),(a2,t2),((wA .u8 k (N2 ++ [1])),(5,(0,0)))] b1 l1 c1∧BytesOk [((wA .u32 64 kL2),g0),((wA .u64 80 kL5),g1),(a1,t1),(a2,t2),((wA .u8 k (N2 ++ [1])),(5,(0,0)))] (some ⟨4,0,none⟩) (l2+1) k∧l1≤100000000∧(l2+1)≤100000000)),(0,((wA .u8 32 (hmac2 (bytesOf [((wA .u32 64 kL2),g0),((wA .u64 80 kL5),g1),(a1,t1),(a2,t2),((wA .u8 k (N2 ++ [1])),(5,(0,0)))] b1 l1) (bL (wA .u8 k (N2 ++ [1])) 0 (l2+1)))).all (fun v=>v.oneCell')=true))] 0 (fun j M=>by kernel_rfl) (A1 ⟨rfl,rfl,(BytesOk.app (x:= [_]) hk).1,.inr ⟨4,0,_,_,rfl,rfl,bt_k hkk (fun y hy=>by rcases List.mem_append.1 hy with h_|h_;exact hNb _ h_;simp at h_;subst h_;exact⟨by decide,by decide⟩),by rw[wA_size];omega,hkk⟩,by omega,by omega⟩ (A1 (wA_one _ _ _) A0)) ⟨⟨rfl⟩,(by
    delta dzM
    simp only[List.cons_append,List.nil_append] at e1
    rw[e1,bLk (by simp[hNl]) hkk]
    try kernel_rfl)⟩
structure dzN_c (_:dzA_c g0 g1 t1 t2 a1 a2 b1 b2 l1 c1 l2 c2 N1 N2 n) (k:Nat) (S:List Int):Prop where
  hk5:32≤k
  hS:S=tK (wA .u8 64 (key2 N1)) N2 1
variable {k_9:dzN_c k_1 k S}
abbrev dzN (_:dzN_c k_1 k S):FS:=⟨false,49,[(0,.slice b1 l1 c1),(1,.slice b2 l2 c2),(2,.int .i64 (n:Int)),(8,.slice none 0 0),(9,.slice (some ⟨4,0,none⟩) 32 k),(10,.int .i64 0)],[((wA .u32 64 kL2),g0),((wA .u64 80 kL5),g1),(a1,t1),(a2,t2),((wA .u8 k S),(5,(0,0))),((wA .u8 32 S),(25,(0,0)))]⟩
theorem dzg:dzA_R [1,1,1,1,1,0,1,0,0,1,0,0,0,1,0,1,1,1] (dzM k_8) .normal (fun z_=>∃(k1:Nat) (k_9:dzN_c k_1 k1 S),z_=dzN k_9):=by
  have⟨hk,hN1,ht,hN2,hl,hn⟩:=id k_1
  have⟨hkk⟩:=id k_5
  have⟨hS⟩:=id k_8
  have hSl:S.length=32:=by rw[hS];exact tK_len _ _ _
  refine rn_reg (some (true,4)) (by kernel_rfl) fun j c0 ch0=> ?_
  refine rl_app (yty.enm (pDh2 :: tabM3) [mMask] 2000004) apB apB.ht 2 [] [] 1 [((wA .u32 64 kL2),g0),((wA .u64 80 kL5),g1),(a1,t1),(a2,t2),((wA .u8 k (N2 ++ [1])),(5,(0,0))),((wA .u8 32 S),(25,(0,0))),((wA .u8 0 []),(5,(0,0)))] 6 0 0 ([]:List Int) S (.slice (some ⟨5,0,none⟩) 32 32) (some 39) (by kernel_rfl) A0 rfl (Nat.zero_le _) (src_wA (i:=5) rfl hSl.symm (by omega)) (by simp only[List.length_nil];omega) fun n1 k1 M1 c1_ e1_ hn1 hk1=> ?_
  try simp only[zL] at hn1
  obtain rfl:n1=32:=by omega
  exact rl_endM (E:=(yty.enm (pDh2 :: tabM3) [mMask] 2000004)) (fun M=>⟨false,49,[(0,ov 4 6 M (al 6 M1 (.slice b1 l1 c1))),(1,ov 4 6 M (al 6 M1 (.slice b2 l2 c2))),(2,.int .i64 (n:Int)),(8,.slice none 0 0),(9,.slice (some ⟨4,0,none⟩) 32 k1),(10,.int .i64 0)],[((wA .u32 64 kL2),g0),((wA .u64 80 kL5),g1),(a1,t1),(a2,t2),((wA .u8 k1 (([]:List Int) ++ S)),(5,(0,0))),((wA .u8 32 S),(25,(0,0)))]⟩) [] [] 1 (fun M=>by kernel_rfl) A0 fun M=>⟨k1,⟨by omega,hS⟩,(by
    delta dzN
    rw[al_b hk (Nat.le_of_ble_eq_true rfl),al_b ht (Nat.le_of_ble_eq_true rfl),ov_b hk (Nat.le_of_ble_eq_true rfl) (Nat.le_of_ble_eq_true rfl),ov_b ht (Nat.le_of_ble_eq_true rfl) (Nat.le_of_ble_eq_true rfl)]
    try kernel_rfl)⟩
theorem dzga (hl0:0<l2):dzA_R [1,1,1,1,1,0,1,0,0,1,0,0,0,1,0] (dzI k_1) .normal (fun z_=>∃(k10 k11 k13:Nat) (k_9:dzN_c k_1 k13 (tK (wA .u8 64 (key2 N1)) N2 1)),z_=dzN k_9):=by
  refine rn_seq (w:= [1,1,1,1,1,0,1,0,0,1,0,0,0,1,0]) (by kernel_rfl) (dza hl0) ?_
  rintro _ ⟨k10,k_6,rfl⟩
  refine rn_seq (w:= [1,1,1,1,1,0,1,0,0,1,0,0,0,1,0,1]) (by kernel_rfl) dzb ?_
  rintro _ ⟨k11,k_5,rfl⟩
  refine rn_seq (w:= [1,1,1,1,1,0,1,0,0,1,0,0,0,1,0,1,1]) (by kernel_rfl) dzf ?_
  rintro _ ⟨k_8,rfl⟩
  exact(dzg).mono fun _ ⟨k13,k_9,e_⟩=>⟨k10,k11,k13,k_9,e_⟩
theorem dzgb (hl0:¬ 0<l2):dzA_R [1,1,1,1,1,0,1,0,0,1,0,0,0,1,0] (dzI k_1) .normal (fun z_=>∃(k11 k13:Nat) (k_9:dzN_c k_1 k13 (tK (wA .u8 64 (key2 N1)) N2 1)),z_=dzN k_9):=by
  refine rn_seq (w:= [1,1,1,1,1,0,1,0,0,1,0,0,0,1,0]) (by kernel_rfl) (dzc hl0) ?_
  rintro _ ⟨k_7,rfl⟩
  refine rn_seq (w:= [1,1,1,1,1,0,1,0,0,1,0,0,0,1,0,1]) (by kernel_rfl) dzd ?_
  rintro _ ⟨k11,k_5,rfl⟩
  refine rn_seq (w:= [1,1,1,1,1,0,1,0,0,1,0,0,0,1,0,1,1]) (by kernel_rfl) dzf ?_
  rintro _ ⟨k_8,rfl⟩
  exact(dzg).mono fun _ ⟨k13,k_9,e_⟩=>⟨k11,k13,k_9,e_⟩
theorem dzgc:dzA_R [1,1,1,1,1,0,1,0,0,1,0,0,0,1,0] (dzI k_1) .normal (fun z_=>∃(k:Nat) (k_9:dzN_c k_1 k (tK (wA .u8 64 (key2 N1)) N2 1)),z_=dzN k_9):=by
  by_cases hl0:0<l2
  · exact(dzga hl0).mono fun _ ⟨k10,k11,k13,k_9,e_⟩=>⟨_,k_9,e_⟩
  · exact(dzgb hl0).mono fun _ ⟨k11,k13,k_9,e_⟩=>⟨_,k_9,e_⟩
theorem dzgd:dzA_R [1,1,1,1,1,0,1,0,0,1,0,0,0,1] (dzI k_1) .normal (fun z_=>∃(k:Nat) (k_9:dzN_c k_1 k (tK (wA .u8 64 (key2 N1)) N2 1)),z_=dzN k_9):=rn_condT (w:= [1,1,1,1,1,0,1,0,0,1,0,0,0,1]) 23 (by kernel_rfl) (fun j=>by kernel_rfl) dzgc
theorem dzge:dzA_R [1,1,1,1,1,0,1,0,0,1,0,0,0] (dzE k_1) .normal (fun z_=>∃(k1:Nat) (k_9:dzN_c k_1 k1 (tK (wA .u8 64 (key2 N1)) N2 1)),z_=dzN k_9):=by
  refine rn_seq (w:= [1,1,1,1,1,0,1,0,0,1,0,0,0]) (by kernel_rfl) dz9 ?_
  rintro _ rfl
  exact dzgd
structure dzO_c (_:dzA_c g0 g1 t1 t2 a1 a2 b1 b2 l1 c1 l2 c2 N1 N2 n) (i k c5:Nat) (T Y:List Int):Prop where
  hT:T=tK (wA .u8 64 (key2 N1)) N2 (i / 32+1)
  hY:Y=okN (wA .u8 64 (key2 N1)) N2 (i+1)
  hi:i<n
  hk5:32≤k
  hc5:i+1≤c5
variable {k_10:dzO_c k_1 i k c5 T Y}
abbrev dzO (_:dzO_c k_1 i k c5 T Y):FS:=⟨false,49,[(0,.slice b1 l1 c1),(1,.slice b2 l2 c2),(2,.int .i64 (n:Int)),(8,.slice (some ⟨5,0,none⟩) (i+1) c5),(9,.slice (some ⟨4,0,none⟩) 32 k),(10,.int .i64 (i:Int))],[((wA .u32 64 kL2),g0),((wA .u64 80 kL5),g1),(a1,t1),(a2,t2),((wA .u8 k T),(5,(0,0))),((wA .u8 c5 Y),(5,(0,0)))]⟩
structure dzP_c (_:dzO_c k_1 i k c5 T Y) (rr:Array Value):Prop where
variable {rr:Array Value} {k_11:dzP_c k_10 rr}
abbrev dzP (_:dzP_c k_10 rr):FS:=⟨false,49,[(0,.slice b1 l1 c1),(1,.slice b2 l2 c2),(2,.int .i64 (n:Int)),(8,.slice (some ⟨5,0,none⟩) (i+1) c5),(9,.slice (some ⟨4,0,none⟩) 32 k),(10,.int .i64 (i:Int))],[((wA .u32 64 kL2),g0),((wA .u64 80 kL5),g1),(a1,t1),(a2,t2),((wA .u8 k T),(5,(0,0))),((wA .u8 c5 Y),(5,(0,0))),(rr,(5,(0,0)))]⟩
theorem dzi (h0n:0<n):dzA_R [1,1,1,1,1,0,1,0,0,1,0,0,1] (dzN k_9) .normal (fun z_=>∃(k1:Nat) (k_10:dzO_c k_1 0 k k1 S ([(S.getD 0 0)])) (k_11:dzP_c k_10 (wA .u8 1 [(S.getD 0 0)])),z_=dzP k_11):=by
  have⟨hk,hN1,ht,hN2,hl,hn⟩:=id k_1
  have⟨hk5,hS⟩:=id k_9
  refine rn_reg (some (true,5)) (by kernel_rfl) fun j c0 ch0=> ?_
  refine rl_appN (yty.enm (pDh2 :: tabM3) [mMask] 2000004) apB apB.ht 7 [none,some (.int .u8 (S.getD 0 0))] [(6,((32:Int)≠0)),(0,bdN 0 32),(0,(((wA .u8 k S)[0]? =some (.int .u8 (S.getD 0 0)))∧(S.getD 0 0)=(S.getD 0 0)))] 0 [((wA .u32 64 kL2),g0),((wA .u64 80 kL5),g1),(a1,t1),(a2,t2),((wA .u8 k S),(5,(0,0))),((wA .u8 32 S),(25,(0,0))),((wA .u8 1 [(S.getD 0 0)]),(5,(0,0)))] 7 ([(S.getD 0 0)]) (.slice (some ⟨6,0,none⟩) 1 1) (some 47) (by kernel_rfl) (A1 (by decide) (A1 (bdd rfl) (A1 ⟨(wA_get (by omega) (by omega)),rfl⟩ A0))) (src_wA (i:=6) rfl rfl (Nat.le_refl 1)) (by simp) (by simp) fun n1 k1 c1_ e1_ hn1 hk1=> ?_
  try simp only[zL] at hn1
  obtain rfl:n1=1:=hn1
  exact rl_endM (E:=(yty.enm (pDh2 :: tabM3) [mMask] 2000004)) (fun M=>⟨false,49,[(0,ov 5 7 M (.slice b1 l1 c1)),(1,ov 5 7 M (.slice b2 l2 c2)),(2,.int .i64 (n:Int)),(8,.slice (some ⟨5,0,none⟩) 1 k1),(9,.slice (some ⟨4,0,none⟩) 32 k),(10,.int .i64 0)],[((wA .u32 64 kL2),g0),((wA .u64 80 kL5),g1),(a1,t1),(a2,t2),((wA .u8 k S),(5,(0,0))),((wA .u8 k1 ([(S.getD 0 0)])),(5,(0,0))),((wA .u8 1 [(S.getD 0 0)]),(5,(0,0)))]⟩) [] [] 1 (fun M=>by kernel_rfl) A0 fun M=>⟨k1,⟨by rw[hS],by rw[hS];rfl,h0n,hk5,by omega⟩,⟨⟩,(by
    delta dzP
    rw[ov_b hk (Nat.le_of_ble_eq_true rfl) (Nat.le_of_ble_eq_true rfl),ov_b ht (Nat.le_of_ble_eq_true rfl) (Nat.le_of_ble_eq_true rfl)]
    try kernel_rfl)⟩
theorem dzj:dzA_R [1,1,1,1,1,0,1,0,0,1,1] (dzP k_11) .normal (fun z_=>∃(k_2:dzF_c k_1 (i+1) k c5 T Y),z_=dzF k_2):=by
  have⟨hk,hN1,ht,hN2,hl,hn⟩:=id k_1
  have⟨hT,hY,hi,hk5,hc5⟩:=id k_10
  exact rn_evM (yty.enm (pDh2 :: tabM3) [mMask] 2000004) dzA_h mixed (fun M=>⟨false,49,[(0,dn 6 M (.slice b1 l1 c1)),(1,dn 6 M (.slice b2 l2 c2)),(2,.int .i64 (n:Int)),(8,.slice (some ⟨5,0,none⟩) (i+1) c5),(9,.slice (some ⟨4,0,none⟩) 32 k),(10,.int .i64 ((i+1:Nat):Int))],[((wA .u32 64 kL2),g0),((wA .u64 80 kL5),g1),(a1,t1),(a2,t2),((wA .u8 k T),(5,(0,0))),((wA .u8 c5 Y),(5,(0,0)))]⟩) (some (false,6)) [some (.int .i64 ((i+1:Nat):Int))] [(3,(IntKind.i64.wrap ((i:Int)+1))=((i+1:Nat):Int))] 1 (fun j M=>by kernel_rfl) (A1 (wi64 (by omega)) A0) fun M=>⟨⟨by rw[hT,Nat.add_sub_cancel],hY,by omega,hk5,hc5⟩,(by
    delta dzF
    rw[dn_b hk (Nat.le_of_ble_eq_true rfl),dn_b ht (Nat.le_of_ble_eq_true rfl)]
    try kernel_rfl)⟩
theorem dzk:dzA_R [1,1,1,1,1,0,1,0,0,1,1] (dzO k_10) .normal (fun z_=>∃(k_2:dzF_c k_1 (i+1) k c5 T Y),z_=dzF k_2):=by
  have⟨hk,hN1,ht,hN2,hl,hn⟩:=id k_1
  have⟨hT,hY,hi,hk5,hc5⟩:=id k_10
  exact rn_ev (yty.enm (pDh2 :: tabM3) [mMask] 2000004) dzA_h mixed _ none [some (.int .i64 ((i+1:Nat):Int))] [(3,(IntKind.i64.wrap ((i:Int)+1))=((i+1:Nat):Int))] 1 (fun j M=>by kernel_rfl) (A1 (wi64 (by omega)) A0) ⟨⟨by rw[hT,Nat.add_sub_cancel],hY,by omega,hk5,hc5⟩,rfl⟩
theorem dzo (h0n:0<n):dzA_R [1,1,1,1,1,0,1,0,0,1,0,0] (dzE k_1) .normal (fun z_=>∃(k10 k11:Nat) (k_10:dzO_c k_1 0 k10 k11 (tK (wA .u8 64 (key2 N1)) N2 1) ([((tK (wA .u8 64 (key2 N1)) N2 1).getD 0 0)])) (k_11:dzP_c k_10 (wA .u8 1 [((tK (wA .u8 64 (key2 N1)) N2 1).getD 0 0)])),z_=dzP k_11):=by
  refine rn_seq (w:= [1,1,1,1,1,0,1,0,0,1,0,0]) (by kernel_rfl) dzge ?_
  rintro _ ⟨k10,k_9,rfl⟩
  exact((dzi h0n)).mono fun _ ⟨k11,k_10,k_11,e_⟩=>⟨k10,k11,k_10,k_11,e_⟩
theorem dzn (h0n:0<n):dzA_R [1,1,1,1,1,0,1,0,0,1,0] (dzE k_1) .normal (fun z_=>∃(k10 k11:Nat) (k_10:dzO_c k_1 0 k10 k11 (tK (wA .u8 64 (key2 N1)) N2 1) ([((tK (wA .u8 64 (key2 N1)) N2 1).getD 0 0)])) (k_11:dzP_c k_10 (wA .u8 1 [((tK (wA .u8 64 (key2 N1)) N2 1).getD 0 0)])),z_=dzP k_11):=rn_block (k:=1) (w:= [1,1,1,1,1,0,1,0,0,1,0]) (by kernel_rfl) (dzo h0n)
theorem dzm (h0n:0<n):dzA_R [1,1,1,1,1,0,1,0,0,1] (dzE k_1) .normal (fun z_=>∃(k100 k110:Nat) (k_2:dzF_c k_1 (0+1) k100 k110 (tK (wA .u8 64 (key2 N1)) N2 1) ([((tK (wA .u8 64 (key2 N1)) N2 1).getD 0 0)])),z_=dzF k_2):=by
  refine rn_seq (w:= [1,1,1,1,1,0,1,0,0,1]) (by kernel_rfl) (dzn h0n) ?_
  rintro _ ⟨k100,k110,k_10,k_11,rfl⟩
  exact(dzj).mono fun _ ⟨k_2,e_⟩=>⟨k100,k110,k_2,e_⟩
theorem dzl (h0n:0<n):dzA_R [1,1,1,1,1,0,1,0,0] (dzE k_1) .normal (fun z_=>∃(k1001 k1101:Nat) (k_2:dzF_c k_1 (0+1) k1001 k1101 (tK (wA .u8 64 (key2 N1)) N2 1) ([((tK (wA .u8 64 (key2 N1)) N2 1).getD 0 0)])),z_=dzF k_2):=by
  refine rn_seq (w:= [1,1,1,1,1,0,1,0,0]) (by kernel_rfl) (dz6 h0n) ?_
  rintro _ rfl
  exact(dzm h0n)
structure dzQ_c (_:dzG_c k_1 i k c5 T Y):Prop where
  hz:i%32=0
variable {k_12:dzQ_c k_3}
abbrev dzQ (_:dzQ_c k_3):FS:=⟨false,49,[(0,.slice b1 l1 c1),(1,.slice b2 l2 c2),(2,.int .i64 (n:Int)),(8,.slice (some ⟨5,0,none⟩) i c5),(9,.slice (some ⟨4,0,none⟩) 32 k),(10,.int .i64 (i:Int)),(23,.bool true)],[((wA .u32 64 kL2),g0),((wA .u64 80 kL5),g1),(a1,t1),(a2,t2),((wA .u8 k T),(5,(0,0))),((wA .u8 c5 Y),(5,(0,0)))]⟩
theorem dzq (hz:i%32=0):dzA_R [1,1,1,1,1,0,1,0,0,1,0,0,0,0] (dzG k_3) .normal (fun z_=>∃(k_12:dzQ_c k_3),z_=dzQ k_12):=by
  have⟨hk,hN1,ht,hN2,hl,hn⟩:=id k_1
  have⟨hT,hY,hi,hk5,hc5⟩:=id k_3
  exact rn_ev (yty.enm (pDh2 :: tabM3) [mMask] 2000004) dzA_h mixed _ none [some (.int .i64 ((i%32:Nat):Int)),some (.bool true)] [(2,(((32:Int)≠0)∧(Int.tmod (i:Int) 32)=((i%32:Nat):Int))),(1,(decide (((i%32:Nat):Int)=0))=true)] 0 (fun j M=>by kernel_rfl) (A1 ⟨(by decide),(by exact tmodN i 32)⟩ (A1 (decide_eq_true (by omega)) A0)) ⟨⟨by omega⟩,rfl⟩
structure dzR_c (_:dzA_c g0 g1 t1 t2 a1 a2 b1 b2 l1 c1 l2 c2 N1 N2 n) (i k c5:Nat) (T Y:List Int):Prop where
  hT:T=tK (wA .u8 64 (key2 N1)) N2 (i / 32+1)
  hY:Y=okN (wA .u8 64 (key2 N1)) N2 i
  hi:i<n
  hk5:32≤k
  hc5:i≤c5
variable {k_13:dzR_c k_1 i k c5 T Y}
abbrev dzR (_:dzR_c k_1 i k c5 T Y):FS:=⟨false,49,[(0,.slice b1 l1 c1),(1,.slice b2 l2 c2),(2,.int .i64 (n:Int)),(8,.slice (some ⟨5,0,none⟩) i c5),(9,.slice (some ⟨4,0,none⟩) 32 k),(10,.int .i64 (i:Int))],[((wA .u32 64 kL2),g0),((wA .u64 80 kL5),g1),(a1,t1),(a2,t2),((wA .u8 k T),(5,(0,0))),((wA .u8 c5 Y),(5,(0,0)))]⟩
theorem dzr (hz:¬ i%32=0):dzA_R [1,1,1,1,1,0,1,0,0,1,0,0,0] (dzG k_3) .normal (fun z_=>∃(k_13:dzR_c k_1 i k c5 T Y),z_=dzR k_13):=by
  have⟨hk,hN1,ht,hN2,hl,hn⟩:=id k_1
  have⟨hT,hY,hi,hk5,hc5⟩:=id k_3
  exact rn_ev (yty.enm (pDh2 :: tabM3) [mMask] 2000004) dzA_h mixed _ none [some (.int .i64 ((i%32:Nat):Int)),some (.bool false)] [(2,(((32:Int)≠0)∧(Int.tmod (i:Int) 32)=((i%32:Nat):Int))),(1,(decide (((i%32:Nat):Int)=0))=false)] 0 (fun j M=>by kernel_rfl) (A1 ⟨(by decide),(by exact tmodN i 32)⟩ (A1 (decide_eq_false (by omega)) A0)) ⟨⟨by rw[hT,show(i - 1) / 32=i / 32 by omega],hY,hi.2,hk5,hc5⟩,rfl⟩
structure dzS_c (_:dzA_c g0 g1 t1 t2 a1 a2 b1 b2 l1 c1 l2 c2 N1 N2 n) (i k c5:Nat) (T Y:List Int):Prop where
  hT:T=tK (wA .u8 64 (key2 N1)) N2 ((i - 1) / 32+1)
  hY:Y=okN (wA .u8 64 (key2 N1)) N2 i
  hi:1≤i∧i<n
  hkk:32+l2≤k
  hc5:i≤c5
  hz:i%32=0
variable {k_14:dzS_c k_1 i k c5 T Y}
abbrev dzS (_:dzS_c k_1 i k c5 T Y):FS:=⟨false,49,[(0,.slice b1 l1 c1),(1,.slice b2 l2 c2),(2,.int .i64 (n:Int)),(8,.slice (some ⟨5,0,none⟩) i c5),(9,.slice (some ⟨4,0,none⟩) (32+l2) k),(10,.int .i64 (i:Int))],[((wA .u32 64 kL2),g0),((wA .u64 80 kL5),g1),(a1,t1),(a2,t2),((wA .u8 k (T ++ N2)),(5,(0,0))),((wA .u8 c5 Y),(5,(0,0)))]⟩
theorem dzs:dzA_R [1,1,1,1,1,0,1,0,0,1,0,0,0,1,0,0] (dzQ k_12) .normal (fun z_=>∃(k1:Nat) (k_14:dzS_c k_1 i k1 c5 T Y),z_=dzS k_14):=by
  have⟨hk,hN1,ht,hN2,hl,hn⟩:=id k_1
  have⟨hT,hY,hi,hk5,hc5⟩:=id k_3
  have⟨hz⟩:=id k_12
  have hNl:N2.length=l2:=by rw[← hN2];exact ht.len
  have hNb:∀ y ∈ N2,0≤y∧y<256:=by rw[← hN2];exact ht.bt
  have hTl:T.length=32:=by rw[hT];exact tK_len _ _ _
  have hTb:∀ y ∈ T,0≤y∧y<256:=by rw[hT];exact tK_bt _ _ _
  refine rn_reg none (by kernel_rfl) fun j c0 ch0=> ?_
  refine rl_app (yty.enm (pDh2 :: tabM3) [mMask] 2000004) apB apB.ht 2 [] [] 2 [((wA .u32 64 kL2),g0),((wA .u64 80 kL5),g1),(a1,t1),(a2,t2),((wA .u8 k T),(5,(0,0))),((wA .u8 c5 Y),(5,(0,0)))] 4 32 k T N2 (.slice b2 l2 c2) (some 26) (by kernel_rfl) A0 hTl.symm (by omega) (SrcOk.app (x:= [_,_]) (hN2 ▸ ht.src)) (by omega) fun n1 k1 M1 c1_ e1_ hn1 hk1=> ?_
  try simp only[zL] at hn1
  obtain rfl:n1=32+l2:=by omega
  exact rl_end (E:=(yty.enm (pDh2 :: tabM3) [mMask] 2000004)) (⟨false,49,[(0,al 4 M1 (.slice b1 l1 c1)),(1,al 4 M1 (.slice b2 l2 c2)),(2,.int .i64 (n:Int)),(8,.slice (some ⟨5,0,none⟩) i c5),(9,.slice (some ⟨4,0,none⟩) (32+l2) k1),(10,.int .i64 (i:Int))],[((wA .u32 64 kL2),g0),((wA .u64 80 kL5),g1),(a1,t1),(a2,t2),((wA .u8 k1 (T ++ N2)),(5,(0,0))),((wA .u8 c5 Y),(5,(0,0)))]⟩) [] [] 1 (fun M=>by kernel_rfl) A0 ⟨k1,⟨hT,hY,hi,by omega,hc5,hz⟩,(by
    delta dzS
    rw[al_b hk (Nat.le_of_ble_eq_true rfl),al_b ht (Nat.le_of_ble_eq_true rfl)]
    try kernel_rfl)⟩
structure dzT_c (_:dzA_c g0 g1 t1 t2 a1 a2 b1 b2 l1 c1 l2 c2 N1 N2 n) (i k c5:Nat) (T Y:List Int):Prop where
  hT:T=tK (wA .u8 64 (key2 N1)) N2 ((i - 1) / 32+1)
  hY:Y=okN (wA .u8 64 (key2 N1)) N2 i
  hi:1≤i∧i<n
  hc5:i≤c5
  hz:i%32=0
  hkk:32+l2+1≤k
variable {k_15:dzT_c k_1 i k c5 T Y}
abbrev dzT (_:dzT_c k_1 i k c5 T Y):FS:=⟨false,49,[(0,.slice b1 l1 c1),(1,.slice b2 l2 c2),(2,.int .i64 (n:Int)),(8,.slice (some ⟨5,0,none⟩) i c5),(9,.slice (some ⟨4,0,none⟩) (32+l2+1) k),(10,.int .i64 (i:Int))],[((wA .u32 64 kL2),g0),((wA .u64 80 kL5),g1),(a1,t1),(a2,t2),((wA .u8 k (T ++ N2 ++ [(((i / 32+1)%256:Nat):Int)])),(5,(0,0))),((wA .u8 c5 Y),(5,(0,0)))]⟩
theorem dzt:dzA_R [1,1,1,1,1,0,1,0,0,1,0,0,0,1,0,1,0] (dzS k_14) .normal (fun z_=>∃(k1:Nat) (k_15:dzT_c k_1 i k1 c5 T Y),z_=dzT k_15):=by
  have⟨hk,hN1,ht,hN2,hl,hn⟩:=id k_1
  have⟨hT,hY,hi,hkk,hc5,hz⟩:=id k_14
  have hNl:N2.length=l2:=by rw[← hN2];exact ht.len
  have hNb:∀ y ∈ N2,0≤y∧y<256:=by rw[← hN2];exact ht.bt
  have hTl:T.length=32:=by rw[hT];exact tK_len _ _ _
  have hTb:∀ y ∈ T,0≤y∧y<256:=by rw[hT];exact tK_bt _ _ _
  refine rn_reg (some (false,6)) (by kernel_rfl) fun j c0 ch0=> ?_
  refine rl_app (yty.enm (pDh2 :: tabM3) [mMask] 2000004) apB apB.ht 6 [some (.int .i64 ((i / 32:Nat):Int)),some (.int .i64 ((i / 32+1:Nat):Int)),some (.int .u8 (((i / 32+1)%256:Nat):Int))] [(4,(((32:Int)≠0)∧(IntKind.i64.wrap (Int.tdiv (i:Int) 32))=((i / 32:Nat):Int))),(1,(IntKind.i64.wrap (((i / 32:Nat):Int)+1))=((i / 32+1:Nat):Int)),(1,(IntKind.u8.wrap ((i / 32+1:Nat):Int))=(((i / 32+1)%256:Nat):Int))] 0 [((wA .u32 64 kL2),g0),((wA .u64 80 kL5),g1),(a1,t1),(a2,t2),((wA .u8 k (T ++ N2)),(5,(0,0))),((wA .u8 c5 Y),(5,(0,0))),((wA .u8 1 [(((i / 32+1)%256:Nat):Int)]),(5,(0,0)))] 4 (32+l2) k (T ++ N2) ([(((i / 32+1)%256:Nat):Int)]) (.slice (some ⟨6,0,none⟩) 1 1) (some 33) (by kernel_rfl) (A1 ⟨(by decide),(by exact tdivN_i64 i 32 (by omega))⟩ (A1 (wi64 (by omega)) (A1 (wu8 (by omega)) A0))) (by rw[List.length_append];omega) (by rw[List.length_append];omega) (src_wA (i:=6) rfl rfl (Nat.le_refl 1)) (by simp only[List.length_append,List.length_cons,List.length_nil];omega) fun n1 k1 M1 c1_ e1_ hn1 hk1=> ?_
  try simp only[zL] at hn1
  obtain rfl:n1=32+l2+1:=by omega
  exact rl_endM (E:=(yty.enm (pDh2 :: tabM3) [mMask] 2000004)) (fun M=>⟨false,49,[(0,dn 6 M (al 4 M1 (.slice b1 l1 c1))),(1,dn 6 M (al 4 M1 (.slice b2 l2 c2))),(2,.int .i64 (n:Int)),(8,.slice (some ⟨5,0,none⟩) i c5),(9,.slice (some ⟨4,0,none⟩) (32+l2+1) k1),(10,.int .i64 (i:Int))],[((wA .u32 64 kL2),g0),((wA .u64 80 kL5),g1),(a1,t1),(a2,t2),((wA .u8 k1 ((T ++ N2) ++ ([(((i / 32+1)%256:Nat):Int)]))),(5,(0,0))),((wA .u8 c5 Y),(5,(0,0)))]⟩) [] [] 1 (fun M=>by kernel_rfl) A0 fun M=>⟨k1,⟨hT,hY,hi,hc5,hz,by omega⟩,(by
    delta dzT
    rw[al_b hk (Nat.le_of_ble_eq_true rfl),al_b ht (Nat.le_of_ble_eq_true rfl),dn_b hk (Nat.le_of_ble_eq_true rfl),dn_b ht (Nat.le_of_ble_eq_true rfl)]
    try kernel_rfl)⟩
structure dzU_c (_:dzT_c k_1 i k c5 T Y) (S:List Int):Prop where
  hS:S=tK (wA .u8 64 (key2 N1)) N2 (i / 32+1)
variable {k_16:dzU_c k_15 S}
abbrev dzU (_:dzU_c k_15 S):FS:=⟨false,49,[(0,.slice b1 l1 c1),(1,.slice b2 l2 c2),(2,.int .i64 (n:Int)),(8,.slice (some ⟨5,0,none⟩) i c5),(10,.int .i64 (i:Int)),(11,.pointer (some ⟨6,0,none⟩))],[((wA .u32 64 kL2),g0),((wA .u64 80 kL5),g1),(a1,t1),(a2,t2),((wA .u8 k (T ++ N2 ++ [(((i / 32+1)%256:Nat):Int)])),(5,(0,0))),((wA .u8 c5 Y),(5,(0,0))),((wA .u8 32 S),(25,(0,0)))]⟩
theorem dzu1:dzA_R [1,1,1,1,1,0,1,0,0,1,0,0,0,1,0,1,1,0] (dzT k_15) .normal (fun z_=>∃(k_16:dzU_c k_15 (tK (wA .u8 64 (key2 N1)) N2 (i / 32+1))),z_=dzU k_16):=by
  have⟨hk,hN1,ht,hN2,hl,hn⟩:=id k_1
  have⟨hT,hY,hi,hc5,hz,hkk⟩:=id k_15
  have hNl:N2.length=l2:=by rw[← hN2];exact ht.len
  have hNb:∀ y ∈ N2,0≤y∧y<256:=by rw[← hN2];exact ht.bt
  have hTl:T.length=32:=by rw[hT];exact tK_len _ _ _
  have hTb:∀ y ∈ T,0≤y∧y<256:=by rw[hT];exact tK_bt _ _ _
  have e1:bytesOf [(wA .u32 64 kL2,g0),(wA .u64 80 kL5,g1),(a1,t1),(a2,t2),(wA .u8 k (T ++ N2 ++ [(((i / 32+1)%256:Nat):Int)]),(5,(0,0))),(wA .u8 c5 Y,(5,(0,0)))] b1 l1=N1:=(BytesOk.app (x:= [_,_]) hk).2.trans hN1
  have hTi:T=tK (wA .u8 64 (key2 N1)) N2 (i / 32):=by rw[hT,show(i - 1) / 32+1=i / 32 by omega]
  exact rn_ev (yty.enm (pDh2 :: tabM3) [mMask] 2000004) dzA_h mixed (⟨false,49,[(0,.slice b1 l1 c1),(1,.slice b2 l2 c2),(2,.int .i64 (n:Int)),(8,.slice (some ⟨5,0,none⟩) i c5),(10,.int .i64 (i:Int)),(11,.pointer (some ⟨6,0,none⟩))],[((wA .u32 64 kL2),g0),((wA .u64 80 kL5),g1),(a1,t1),(a2,t2),((wA .u8 k (T ++ N2 ++ [(((i / 32+1)%256:Nat):Int)])),(5,(0,0))),((wA .u8 c5 Y),(5,(0,0))),((wA .u8 32 (hmac2 (bytesOf [((wA .u32 64 kL2),g0),((wA .u64 80 kL5),g1),(a1,t1),(a2,t2),((wA .u8 k (T ++ N2 ++ [(((i / 32+1)%256:Nat):Int)])),(5,(0,0))),((wA .u8 c5 Y),(5,(0,0)))] b1 l1) (bL (wA .u8 k (T ++ N2 ++ [(((i / 32+1)%256:Nat):Int)])) 0 (32+l2+1)))),(25,(0,0)))]⟩) none [] [(4,((wA .u32 64 kL2)=wA .u32 64 kL2∧(wA .u64 80 kL5)=wA .u64 80 kL5∧BytesOk [((wA .u32 64 kL2),g0),((wA .u64 80 kL5),g1),(a1,t1),(a2,t2),((wA .u8 k (T ++ N2 ++ [(((i / 32+1)%256:Nat):Int)])),(5,(0,0))),((wA .u8 c5 Y),(5,(0,0)))] b1 l1 c1∧BytesOk [((wA .u32 64 kL2),g0),((wA .u64 80 kL5),g1),(a1,t1),(a2,t2),((wA .u8 k (T ++ N2 ++ [(((i / 32+1)%256:Nat):Int)])),(5,(0,0))),((wA .u8 c5 Y),(5,(0,0)))] (some ⟨4,0,none⟩) (32+l2+1) k∧l1≤100000000∧(32+l2+1)≤100000000)),(0,((wA .u8 32 (hmac2 (bytesOf [((wA .u32 64 kL2),g0),((wA .u64 80 kL5),g1),(a1,t1),(a2,t2),((wA .u8 k (T ++ N2 ++ [(((i / 32+1)%256:Nat):Int)])),(5,(0,0))),((wA .u8 c5 Y),(5,(0,0)))] b1 l1) (bL (wA .u8 k (T ++ N2 ++ [(((i / 32+1)%256:Nat):Int)])) 0 (32+l2+1)))).all (fun v=>v.oneCell')=true))] 0 (fun j M=>by kernel_rfl) (A1 ⟨rfl,rfl,(BytesOk.app (x:= [_,_]) hk).1,.inr ⟨4,0,_,_,rfl,rfl,bt_k hkk (row_bt hTb hNb (by omega)),by rw[wA_size];omega,hkk⟩,by omega,by omega⟩ (A1 (wA_one _ _ _) A0)) ⟨⟨rfl⟩,(by
    delta dzU
    rw[e1,bLk (row_len hTl hNl) hkk,hTi]
    try kernel_rfl)⟩
structure dzV_c (_:dzA_c g0 g1 t1 t2 a1 a2 b1 b2 l1 c1 l2 c2 N1 N2 n) (i k c5:Nat) (T Y S:List Int):Prop where
  hS:S=tK (wA .u8 64 (key2 N1)) N2 (i / 32+1)
  hY:Y=okN (wA .u8 64 (key2 N1)) N2 i
  hi:1≤i∧i<n
  hk5:32≤k
  hc5:i≤c5
variable {k_17:dzV_c k_1 i k c5 T Y S}
abbrev dzV (_:dzV_c k_1 i k c5 T Y S):FS:=⟨false,49,[(0,.slice b1 l1 c1),(1,.slice b2 l2 c2),(2,.int .i64 (n:Int)),(8,.slice (some ⟨5,0,none⟩) i c5),(9,.slice (some ⟨4,0,none⟩) 32 k),(10,.int .i64 (i:Int))],[((wA .u32 64 kL2),g0),((wA .u64 80 kL5),g1),(a1,t1),(a2,t2),((wA .u8 k S),(5,(0,0))),((wA .u8 c5 Y),(5,(0,0))),((wA .u8 32 S),(25,(0,0)))]⟩
theorem dzv:dzA_R [1,1,1,1,1,0,1,0,0,1,0,0,0,1,0,1,1,1] (dzU k_16) .normal (fun z_=>∃(k1:Nat) (k_17:dzV_c k_1 i k1 c5 T Y S),z_=dzV k_17):=by
  have⟨hk,hN1,ht,hN2,hl,hn⟩:=id k_1
  have⟨hT,hY,hi,hc5,hz,hkk⟩:=id k_15
  have⟨hS⟩:=id k_16
  have hSl:S.length=32:=by rw[hS];exact tK_len _ _ _
  refine rn_reg (some (true,4)) (by kernel_rfl) fun j c0 ch0=> ?_
  refine rl_app (yty.enm (pDh2 :: tabM3) [mMask] 2000004) apB apB.ht 2 [] [] 1 [((wA .u32 64 kL2),g0),((wA .u64 80 kL5),g1),(a1,t1),(a2,t2),((wA .u8 k (T ++ N2 ++ [(((i / 32+1)%256:Nat):Int)])),(5,(0,0))),((wA .u8 c5 Y),(5,(0,0))),((wA .u8 32 S),(25,(0,0))),((wA .u8 0 []),(5,(0,0)))] 7 0 0 ([]:List Int) S (.slice (some ⟨6,0,none⟩) 32 32) (some 39) (by kernel_rfl) A0 rfl (Nat.zero_le _) (src_wA (i:=6) rfl hSl.symm (by omega)) (by simp only[List.length_nil];omega) fun n1 k1 M1 c1_ e1_ hn1 hk1=> ?_
  try simp only[zL] at hn1
  obtain rfl:n1=32:=by omega
  exact rl_endM (E:=(yty.enm (pDh2 :: tabM3) [mMask] 2000004)) (fun M=>⟨false,49,[(0,ov 4 7 M (al 7 M1 (.slice b1 l1 c1))),(1,ov 4 7 M (al 7 M1 (.slice b2 l2 c2))),(2,.int .i64 (n:Int)),(8,.slice (some ⟨5,0,none⟩) i c5),(9,.slice (some ⟨4,0,none⟩) 32 k1),(10,.int .i64 (i:Int))],[((wA .u32 64 kL2),g0),((wA .u64 80 kL5),g1),(a1,t1),(a2,t2),((wA .u8 k1 (([]:List Int) ++ S)),(5,(0,0))),((wA .u8 c5 Y),(5,(0,0))),((wA .u8 32 S),(25,(0,0)))]⟩) [] [] 1 (fun M=>by kernel_rfl) A0 fun M=>⟨k1,⟨hS,hY,hi,by omega,hc5⟩,(by
    delta dzV
    rw[al_b hk (Nat.le_of_ble_eq_true rfl),al_b ht (Nat.le_of_ble_eq_true rfl),ov_b hk (Nat.le_of_ble_eq_true rfl) (Nat.le_of_ble_eq_true rfl),ov_b ht (Nat.le_of_ble_eq_true rfl) (Nat.le_of_ble_eq_true rfl)]
    try kernel_rfl)⟩
theorem dzw:dzA_R [1,1,1,1,1,0,1,0,0,1,0,0,0,1,0] (dzQ k_12) .normal (fun z_=>∃(k10 k11 k13:Nat) (k_17:dzV_c k_1 i k13 c5 T Y (tK (wA .u8 64 (key2 N1)) N2 (i / 32+1))),z_=dzV k_17):=by
  refine rn_seq (w:= [1,1,1,1,1,0,1,0,0,1,0,0,0,1,0]) (by kernel_rfl) dzs ?_
  rintro _ ⟨k10,k_14,rfl⟩
  refine rn_seq (w:= [1,1,1,1,1,0,1,0,0,1,0,0,0,1,0,1]) (by kernel_rfl) dzt ?_
  rintro _ ⟨k11,k_15,rfl⟩
  refine rn_seq (w:= [1,1,1,1,1,0,1,0,0,1,0,0,0,1,0,1,1]) (by kernel_rfl) dzu1 ?_
  rintro _ ⟨k_16,rfl⟩
  exact(dzv).mono fun _ ⟨k13,k_17,e_⟩=>⟨k10,k11,k13,k_17,e_⟩
theorem dzw1:dzA_R [1,1,1,1,1,0,1,0,0,1,0,0,0,1] (dzQ k_12) .normal (fun z_=>∃(k10 k11 k13:Nat) (k_17:dzV_c k_1 i k13 c5 T Y (tK (wA .u8 64 (key2 N1)) N2 (i / 32+1))),z_=dzV k_17):=rn_condT (w:= [1,1,1,1,1,0,1,0,0,1,0,0,0,1]) 23 (by kernel_rfl) (fun j=>by kernel_rfl) dzw
theorem dzw2 (hz:i%32=0):dzA_R [1,1,1,1,1,0,1,0,0,1,0,0,0] (dzG k_3) .normal (fun z_=>∃(k101 k111 k131:Nat) (k_17:dzV_c k_1 i k131 c5 T Y (tK (wA .u8 64 (key2 N1)) N2 (i / 32+1))),z_=dzV k_17):=by
  refine rn_seq (w:= [1,1,1,1,1,0,1,0,0,1,0,0,0]) (by kernel_rfl) (dzq hz) ?_
  rintro _ ⟨k_12,rfl⟩
  exact dzw1
theorem dzx1:dzA_R [1,1,1,1,1,0,1,0,0,1,0,0,1] (dzR k_13) .normal (fun z_=>∃(k1:Nat) (k_10:dzO_c k_1 i k k1 T (Y ++ [(T.getD (i%32) 0)])),z_=dzO k_10):=by
  have⟨hk,hN1,ht,hN2,hl,hn⟩:=id k_1
  have⟨hT,hY,hi,hk5,hc5⟩:=id k_13
  refine rn_reg (some (false,6)) (by kernel_rfl) fun j c0 ch0=> ?_
  refine rl_app (yty.enm (pDh2 :: tabM3) [mMask] 2000004) apB apB.ht 7 [some (.int .i64 ((i%32:Nat):Int)),some (.int .u8 (T.getD (i%32) 0))] [(6,(((32:Int)≠0)∧(Int.tmod (i:Int) 32)=((i%32:Nat):Int))),(0,((0:Int)≤((i%32:Nat):Int)∧(((i%32:Nat):Int):Int)<((32:Nat):Int))),(0,(((wA .u8 k T)[(0+Int.toNat ((i%32:Nat):Int)*1)]? =some (.int .u8 (T.getD (i%32) 0)))∧(T.getD (i%32) 0)=(T.getD (i%32) 0)))] 0 [((wA .u32 64 kL2),g0),((wA .u64 80 kL5),g1),(a1,t1),(a2,t2),((wA .u8 k T),(5,(0,0))),((wA .u8 c5 Y),(5,(0,0))),((wA .u8 1 [(T.getD (i%32) 0)]),(5,(0,0)))] 5 i c5 Y ([(T.getD (i%32) 0)]) (.slice (some ⟨6,0,none⟩) 1 1) (some 47) (by kernel_rfl) (A1 ⟨(by decide),(by exact tmodN i 32)⟩ (A1 (by(try simp only[Int.toNat_natCast,wA_size]);omega) (A1 ⟨(wA_get (by omega) (by omega)),rfl⟩ A0))) (by rw[hY,okN_len]) (by rw[hY,okN_len];exact hc5) (src_wA (i:=6) rfl rfl (Nat.le_refl 1)) (by rw[hY,okN_len];simp only[List.length_cons,List.length_nil];omega) fun n1 k1 M1 c1_ e1_ hn1 hk1=> ?_
  try simp only[zL] at hn1
  obtain rfl:n1=i+1:=by rw[hn1,hY,okN_len]
  exact rl_endM (E:=(yty.enm (pDh2 :: tabM3) [mMask] 2000004)) (fun M=>⟨false,49,[(0,dn 6 M (al 5 M1 (.slice b1 l1 c1))),(1,dn 6 M (al 5 M1 (.slice b2 l2 c2))),(2,.int .i64 (n:Int)),(8,.slice (some ⟨5,0,none⟩) (i+1) k1),(9,.slice (some ⟨4,0,none⟩) 32 k),(10,.int .i64 (i:Int))],[((wA .u32 64 kL2),g0),((wA .u64 80 kL5),g1),(a1,t1),(a2,t2),((wA .u8 k T),(5,(0,0))),((wA .u8 k1 (Y ++ ([(T.getD (i%32) 0)]))),(5,(0,0)))]⟩) [] [] 1 (fun M=>by kernel_rfl) A0 fun M=>⟨k1,⟨hT,by rw[hY,okN_step,hT],hi,hk5,by rw[hY,okN_len] at hn1;simp only[List.length_cons,List.length_nil] at hn1;omega⟩,(by
    delta dzO
    rw[al_b hk (Nat.le_of_ble_eq_true rfl),al_b ht (Nat.le_of_ble_eq_true rfl),dn_b hk (Nat.le_of_ble_eq_true rfl),dn_b ht (Nat.le_of_ble_eq_true rfl)]
    try kernel_rfl)⟩
theorem dzx2:dzA_R [1,1,1,1,1,0,1,0,0,1,0,0,1] (dzV k_17) .normal (fun z_=>∃(k1:Nat) (k_10:dzO_c k_1 i k k1 S (Y ++ [(S.getD (i%32) 0)])),z_=dzO k_10):=by
  have⟨hk,hN1,ht,hN2,hl,hn⟩:=id k_1
  have⟨hS,hY,hi,hk5,hc5⟩:=id k_17
  refine rn_reg (some (false,6)) (by kernel_rfl) fun j c0 ch0=> ?_
  refine rl_app (yty.enm (pDh2 :: tabM3) [mMask] 2000004) apB apB.ht 7 [some (.int .i64 ((i%32:Nat):Int)),some (.int .u8 (S.getD (i%32) 0))] [(6,(((32:Int)≠0)∧(Int.tmod (i:Int) 32)=((i%32:Nat):Int))),(0,((0:Int)≤((i%32:Nat):Int)∧(((i%32:Nat):Int):Int)<((32:Nat):Int))),(0,(((wA .u8 k S)[(0+Int.toNat ((i%32:Nat):Int)*1)]? =some (.int .u8 (S.getD (i%32) 0)))∧(S.getD (i%32) 0)=(S.getD (i%32) 0)))] 0 [((wA .u32 64 kL2),g0),((wA .u64 80 kL5),g1),(a1,t1),(a2,t2),((wA .u8 k S),(5,(0,0))),((wA .u8 c5 Y),(5,(0,0))),((wA .u8 32 S),(25,(0,0))),((wA .u8 1 [(S.getD (i%32) 0)]),(5,(0,0)))] 5 i c5 Y ([(S.getD (i%32) 0)]) (.slice (some ⟨7,0,none⟩) 1 1) (some 47) (by kernel_rfl) (A1 ⟨(by decide),(by exact tmodN i 32)⟩ (A1 (by(try simp only[Int.toNat_natCast,wA_size]);omega) (A1 ⟨(wA_get (by omega) (by omega)),rfl⟩ A0))) (by rw[hY,okN_len]) (by rw[hY,okN_len];exact hc5) (src_wA (i:=7) rfl rfl (Nat.le_refl 1)) (by rw[hY,okN_len];simp only[List.length_cons,List.length_nil];omega) fun n1 k1 M1 c1_ e1_ hn1 hk1=> ?_
  try simp only[zL] at hn1
  obtain rfl:n1=i+1:=by rw[hn1,hY,okN_len]
  exact rl_endM (E:=(yty.enm (pDh2 :: tabM3) [mMask] 2000004)) (fun M=>⟨false,49,[(0,dn 6 M (al 5 M1 (.slice b1 l1 c1))),(1,dn 6 M (al 5 M1 (.slice b2 l2 c2))),(2,.int .i64 (n:Int)),(8,.slice (some ⟨5,0,none⟩) (i+1) k1),(9,.slice (some ⟨4,0,none⟩) 32 k),(10,.int .i64 (i:Int))],[((wA .u32 64 kL2),g0),((wA .u64 80 kL5),g1),(a1,t1),(a2,t2),((wA .u8 k S),(5,(0,0))),((wA .u8 k1 (Y ++ ([(S.getD (i%32) 0)]))),(5,(0,0)))]⟩) [] [] 1 (fun M=>by kernel_rfl) A0 fun M=>⟨k1,⟨hS,by rw[hY,okN_step,hS],hi.2,hk5,by rw[hY,okN_len] at hn1;simp only[List.length_cons,List.length_nil] at hn1;omega⟩,(by
    delta dzO
    rw[al_b hk (Nat.le_of_ble_eq_true rfl),al_b ht (Nat.le_of_ble_eq_true rfl),dn_b hk (Nat.le_of_ble_eq_true rfl),dn_b ht (Nat.le_of_ble_eq_true rfl)]
    try kernel_rfl)⟩
theorem dzy4 (hz:i%32=0):dzA_R [1,1,1,1,1,0,1,0,0,1,0,0] (dzG k_3) .normal (fun z_=>∃(k1010 k1110 k1310 k11:Nat) (k_10:dzO_c k_1 i k1310 k11 (tK (wA .u8 64 (key2 N1)) N2 (i / 32+1)) (Y ++ [((tK (wA .u8 64 (key2 N1)) N2 (i / 32+1)).getD (i%32) 0)])),z_=dzO k_10):=by
  refine rn_seq (w:= [1,1,1,1,1,0,1,0,0,1,0,0]) (by kernel_rfl) (dzw2 hz) ?_
  rintro _ ⟨k1010,k1110,k1310,k_17,rfl⟩
  exact(dzx2).mono fun _ ⟨k11,k_10,e_⟩=>⟨k1010,k1110,k1310,k11,k_10,e_⟩
theorem dzy5 (hz:¬ i%32=0):dzA_R [1,1,1,1,1,0,1,0,0,1,0,0] (dzG k_3) .normal (fun z_=>∃(k11:Nat) (k_10:dzO_c k_1 i k k11 T (Y ++ [(T.getD (i%32) 0)])),z_=dzO k_10):=by
  refine rn_seq (w:= [1,1,1,1,1,0,1,0,0,1,0,0]) (by kernel_rfl) (dzr hz) ?_
  rintro _ ⟨k_13,rfl⟩
  exact dzx1
theorem dzy:dzA_R [1,1,1,1,1,0,1,0,0,1,0,0] (dzG k_3) .normal (fun z_=>∃(k9 c9:Nat) (T9 Y9:List Int) (k_10:dzO_c k_1 i k9 c9 T9 Y9),z_=dzO k_10):=by
  by_cases hz:i%32=0
  · exact(dzy4 hz).mono fun _ ⟨k1010,k1110,k1310,k11,k_10,e_⟩=>⟨_,_,_,_,k_10,e_⟩
  · exact(dzy5 hz).mono fun _ ⟨k11,k_10,e_⟩=>⟨_,_,_,_,k_10,e_⟩
theorem dzy1:dzA_R [1,1,1,1,1,0,1,0,0,1,0] (dzG k_3) .normal (fun z_=>∃(k9 c9:Nat) (T9 Y9:List Int) (k_10:dzO_c k_1 i k9 c9 T9 Y9),z_=dzO k_10):=rn_block (k:=1) (w:= [1,1,1,1,1,0,1,0,0,1,0]) (by kernel_rfl) dzy
theorem dzy3:dzA_R [1,1,1,1,1,0,1,0,0,1] (dzG k_3) .normal (fun z_=>∃(k90 c90:Nat) (T90 Y90:List Int) (k_2:dzF_c k_1 (i+1) k90 c90 T90 Y90),z_=dzF k_2):=by
  refine rn_seq (w:= [1,1,1,1,1,0,1,0,0,1]) (by kernel_rfl) dzy1 ?_
  rintro _ ⟨k90,c90,T90,Y90,k_10,rfl⟩
  exact(dzk).mono fun _ ⟨k_2,e_⟩=>⟨k90,c90,T90,Y90,k_2,e_⟩
theorem dzy2 (hlt:i<n):dzA_R [1,1,1,1,1,0,1,0,0] (dzF k_2) .normal (fun z_=>∃(k901 c901:Nat) (T901 Y901:List Int) (k_2:dzF_c k_1 (i+1) k901 c901 T901 Y901),z_=dzF k_2):=by
  refine rn_seq (w:= [1,1,1,1,1,0,1,0,0]) (by kernel_rfl) (dz7 hlt) ?_
  rintro _ ⟨k_3,rfl⟩
  exact dzy3
theorem dzz (h0n:0<n):dzA_R [1,1,1,1,1,0,1] (dzE k_1) .normal (fun z_=>∃(i k c5:Nat) (T Y:List Int) (k_4:dzH_c k_1 i k c5 T Y),z_=dzH k_4):=by
  refine rn_loop (k:=0) (w:= [1,1,1,1,1,0,1]) (by kernel_rfl) (fun n_ z_=>(n_=n - 0∧z_=dzE k_1)∨∃(i k c5:Nat) (T Y:List Int) (k_2:dzF_c k_1 i k c5 T Y),n_=n - i∧z_=dzF k_2) _ (.inl ⟨rfl,rfl⟩) ?_
  rintro n_ _ (⟨hn_,rfl⟩|⟨i,k,c5,T,Y,k_2,hn_,rfl⟩)
  · have ⟨hk, hN1, ht, hN2, hl, hn⟩ := k_1
    have hlt:0<n:=by omega
    exact(dzl h0n).x fun _ ⟨k1001_,k1101_,k_2,e_⟩=> .inl ⟨rfl,n - (0+1),by omega,.inr ⟨_,_,_,_,_,k_2,rfl,e_⟩⟩
  · have ⟨hk, hN1, ht, hN2, hl, hn⟩ := k_1
    have⟨hT,hY,hi,hk5,hc5⟩:=k_2
    by_cases hlt:i<n
    · exact(dzy2 hlt).x fun _ ⟨k901_,c901_,T901_,Y901_,k_2,e_⟩=> .inl ⟨rfl,n - (i+1),by omega,.inr ⟨_,_,_,_,_,k_2,rfl,e_⟩⟩
    · exact(rn_seqx (w:= [1,1,1,1,1,0,1,0,0]) (by kernel_rfl) (dz8 hlt) (by simp)).x fun _ ⟨k_4,e_⟩=> .inr ⟨rfl,⟨i,k,c5,T,Y,k_4,e_⟩⟩
abbrev dzW (_:dzH_c k_1 i k c5 T Y):FS:=⟨false,49,[(6,.slice (some ⟨5,0,none⟩) n c5),(7,.int .i64 0)],[((wA .u32 64 kL2),g0),((wA .u64 80 kL5),g1),(a1,t1),(a2,t2),((wA .u8 k T),(5,(0,0))),((wA .u8 c5 Y),(5,(0,0)))]⟩
theorem dzz1:dzA_R [1,1,1,1,1,1] (dzH k_4) .ret (fun z_=>z_=dzW k_4):=by
  have⟨hT,hY,hi,hk5,hc5⟩:=id k_4
  exact rn_ev (yty.enm (pDh2 :: tabM3) [mMask] 2000004) dzA_h mixed (⟨false,49,[(6,.slice (some ⟨5,0,none⟩) i c5),(7,.int .i64 0)],[((wA .u32 64 kL2),g0),((wA .u64 80 kL5),g1),(a1,t1),(a2,t2),((wA .u8 k T),(5,(0,0))),((wA .u8 c5 Y),(5,(0,0)))]⟩) none [] [] 3 (fun j M=>by kernel_rfl) A0 (by
    delta dzW
    rw[hi]
    try kernel_rfl)
theorem dzz2 (h0n:0<n):dzA_R [1,1,1,1,1,0] (dzD k_1) .normal (fun z_=>∃(i1 k1 c51:Nat) (T1 Y1:List Int) (k_4:dzH_c k_1 i1 k1 c51 T1 Y1),z_=dzH k_4):=by
  refine rn_seq (w:= [1,1,1,1,1,0]) (by kernel_rfl) dz5 ?_
  rintro _ rfl
  exact(dzz h0n)
theorem dzu' (h0n:0<n):dzA_R [] (dzA k_1) .ret (fun z_=>∃(i15 k15 c515:Nat) (T15 Y15:List Int) (k_4:dzH_c k_1 i15 k15 c515 T15 Y15),z_=dzW k_4):=by
  refine rn_seq (w:= []) (by kernel_rfl) dz0 ?_
  rintro _ rfl
  refine rn_seq (w:= [1]) (by kernel_rfl) dz1 ?_
  rintro _ rfl
  refine rn_seq (w:= [1,1]) (by kernel_rfl) dz2 ?_
  rintro _ rfl
  refine rn_seq (w:= [1,1,1]) (by kernel_rfl) dz3 ?_
  rintro _ rfl
  refine rn_seq (w:= [1,1,1,1]) (by kernel_rfl) dz4 ?_
  rintro _ rfl
  refine rn_seq (w:= [1,1,1,1,1]) (by kernel_rfl) (dzz2 h0n) ?_
  rintro _ ⟨i15,k15,c515,T15,Y15,k_4,rfl⟩
  exact(dzz1).mono fun _ e_=>⟨i15,k15,c515,T15,Y15,k_4,e_⟩
abbrev dzA_s (g0 g1 t1 t2:Tq) (a1 a2:Array Value) (b1 b2:Option Addr) (l1 c1 l2 c2:Nat) (N1 N2:List Int) (n:Nat) (j:Nat→Value):List Value:=([.slice b1 l1 c1,.slice b2 l2 c2,.int .i64 (n:Int)] ++ (JU 46))
abbrev dzA_m (g0 g1 t1 t2:Tq) (a1 a2:Array Value) (b1 b2:Option Addr) (l1 c1 l2 c2:Nat) (N1 N2:List Int) (n:Nat):List Mb:= [((wA .u32 64 kL2),g0),((wA .u64 80 kL5),g1),(a1,t1),(a2,t2)]
abbrev dzW_s (g0 g1 t1 t2:Tq) (a1 a2:Array Value) (b1 b2:Option Addr) (l1 c1 l2 c2:Nat) (N1 N2:List Int) (n:Nat) (i k c5:Nat) (T Y:List Int) (j:Nat→Value):List Value:=(J j 0 6 ++ ([.slice (some ⟨5,0,none⟩) n c5,.int .i64 0] ++ (J j 8 41)))
abbrev dzW_m (g0 g1 t1 t2:Tq) (a1 a2:Array Value) (b1 b2:Option Addr) (l1 c1 l2 c2:Nat) (N1 N2:List Int) (n:Nat) (i k c5:Nat) (T Y:List Int):List Mb:= [((wA .u32 64 kL2),g0),((wA .u64 80 kL5),g1),(a1,t1),(a2,t2),((wA .u8 k T),(5,(0,0))),((wA .u8 c5 Y),(5,(0,0)))]
theorem dzu (g0 g1 t1 t2:Tq) (a1 a2:Array Value) (b1 b2:Option Addr) (l1 c1 l2 c2:Nat) (N1 N2:List Int) (n:Nat) (j:Nat→Value) (hk:BytesOk [(wA .u32 64 kL2,g0),(wA .u64 80 kL5,g1),(a1,t1),(a2,t2)] b1 l1 c1) (hN1:bytesOf [(wA .u32 64 kL2,g0),(wA .u64 80 kL5,g1),(a1,t1),(a2,t2)] b1 l1=N1) (ht:BytesOk [(wA .u32 64 kL2,g0),(wA .u64 80 kL5,g1),(a1,t1),(a2,t2)] b2 l2 c2) (hN2:bytesOf [(wA .u32 64 kL2,g0),(wA .u64 80 kL5,g1),(a1,t1),(a2,t2)] b2 l2=N2) (hl:l1≤10000000∧l2≤10000000) (hn:n≤8160) (h0n:0<n) :Runs Tryd.prog (cAt [] (bdy Tryd.f23)) ⟨dzA_s g0 g1 t1 t2 a1 a2 b1 b2 l1 c1 l2 c2 N1 N2 n j,dzA_m g0 g1 t1 t2 a1 a2 b1 b2 l1 c1 l2 c2 N1 N2 n,c0,ch0⟩ (fun e s=>e= .ret∧∃(i15:Nat) (k15:Nat) (c515:Nat) (T15:List Int) (Y15:List Int),∃j c ch,(T15=tK (wA .u8 64 (key2 N1)) N2 ((i15 - 1) / 32+1))∧(Y15=okN (wA .u8 64 (key2 N1)) N2 i15)∧(i15=n)∧(32≤k15)∧(i15≤c515)∧s=⟨dzW_s g0 g1 t1 t2 a1 a2 b1 b2 l1 c1 l2 c2 N1 N2 n i15 k15 c515 T15 Y15 j,dzW_m g0 g1 t1 t2 a1 a2 b1 b2 l1 c1 l2 c2 N1 N2 n i15 k15 c515 T15 Y15,c,ch⟩) 2000004:=by
  refine(Rn.old (dzu' (k_1:=(⟨hk,hN1,ht,hN2,hl,hn⟩:dzA_c g0 g1 t1 t2 a1 a2 b1 b2 l1 c1 l2 c2 N1 N2 n)) h0n) j (by kernel_rfl)).mono ?_
  rintro e s ⟨rfl,_,⟨i15,k15,c515,T15,Y15,k_4,rfl⟩,j,c,ch,rfl⟩
  have⟨x_hT,x_hY,x_hi,x_hk5,x_hc5⟩:=k_4
  exact⟨rfl,i15,k15,c515,T15,Y15,j,c,ch,x_hT,x_hY,x_hi,x_hk5,x_hc5,by kernel_rfl⟩
theorem De_c (g0 g1 t1 t2:Tq) (a1 a2:Array Value) (b1 b2:Option Addr) (l1 c1 l2 c2 n:Nat) (hk:BytesOk [(wA .u32 64 kL2,g0),(wA .u64 80 kL5,g1),(a1,t1),(a2,t2)] b1 l1 c1) (ht:BytesOk [(wA .u32 64 kL2,g0),(wA .u64 80 kL5,g1),(a1,t1),(a2,t2)] b2 l2 c2) (hl:l1≤10000000∧l2≤10000000) (hn:n≤8160) (h0n:0<n):MakesT Tryd.prog 23 [(wA .u32 64 kL2,g0),(wA .u64 80 kL5,g1),(a1,t1),(a2,t2)] [.slice b1 l1 c1,.slice b2 l2 c2,.int .i64 (n:Int)] .u8 n (okN (wA .u8 64 (key2 (bytesOf [(wA .u32 64 kL2,g0),(wA .u64 80 kL5,g1),(a1,t1),(a2,t2)] b1 l1))) (bytesOf [(wA .u32 64 kL2,g0),(wA .u64 80 kL5,g1),(a1,t1),(a2,t2)] b2 l2) n) 5 (.int .i64 0) 2:=by
  refine makesT_runs (fk:=2000004) Tryd.func23 (c:=bdy Tryd.f23) (by kernel_rfl) ⟨len4 _ _ _ _,by decide⟩ (args:= [.slice b1 l1 c1,.slice b2 l2 c2,.int .i64 (n:Int)]) (by show(Go.Ev.okp 4 (.slice b1 l1 c1) && (Go.Ev.okp 4 (.slice b2 l2 c2) && (Go.Ev.okp 4 (.int .i64 (n:Int)) && true)))=true;rw[show Go.Ev.okp 4 (.slice b1 l1 c1)=true from hk.okp,show Go.Ev.okp 4 (.slice b2 l2 c2)=true from ht.okp];rfl) (r:=6) (r2:=7) (by kernel_rfl) (dzu g0 g1 t1 t2 a1 a2 b1 b2 l1 c1 l2 c2 _ _ n (fun _=>undef) hk rfl ht rfl hl hn h0n) (fun e s h=>by
    obtain⟨rfl,i,k,c5,T,Y,j,c,ch,hT,hY,hi,hk5,hc5,rfl⟩:=h
    subst hi
    subst hY
    exact⟨rfl,rfl,rfl,5,c5,by decide,by rw[okN_len];exact hc5,rfl,rfl⟩)
theorem De_m {x0 x1:Mb} {mem:List Mb} (b1 b2:Option Addr) (l1 c1 l2 c2 n:Nat) (h0:mem[0]? =some x0) (h1:mem[1]? =some x1) (e0:x0.1=wA .u32 64 kL2) (e1:x1.1=wA .u64 80 kL5) (hk:BytesOk mem b1 l1 c1) (ht:BytesOk mem b2 l2 c2) (hl:l1≤10000000∧l2≤10000000) (hn:n≤8160) (h0n:0<n):MakesT Tryd.prog 23 mem [.slice b1 l1 c1,.slice b2 l2 c2,.int .i64 (n:Int)] .u8 n (okN (wA .u8 64 (key2 (bytesOf mem b1 l1))) (bytesOf mem b2 l2) n) 5 (.int .i64 0) 2:=fun w β hw hg=>by
  obtain⟨x0,g0⟩:=x0
  obtain⟨x1,g1⟩:=x1
  simp only at e0 e1
  subst e0 e1
  refine liftM2 (post:= [.int .i64 (n:Int)]) (Φ:=fun w r w'=>∃ b cap,(okN (wA .u8 64 (key2 (bytesOf mem b1 l1))) (bytesOf mem b2 l2) n).length≤cap∧r= .returned (.tuple #[.slice (some ⟨b,0,none⟩) n cap,.int .i64 0])∧w.heap.size≤b∧w'.heap[b]? =some (.cells (wA .u8 cap (okN (wA .u8 64 (key2 (bytesOf mem b1 l1))) (bytesOf mem b2 l2) n)) 5 (0,0))∧Below w.heap.size w w') rfl hk ht h0 h1 (fun y z q r k1 k2 k3 k4=> ?_) hw (hg 0 (by decide)) (hg 1 (by decide))
  rw[← k2,← k4]
  exact De_c g0 g1 y.2 z.2 y.1 z.1 q r l1 c1 l2 c2 n k1 k3 hl hn h0n
end Go.Proofs.YtcfnjcacdmkgbaaDoor

set_option linter.unusedSimpArgs false
set_option linter.unusedVariables false
/-! mac: what is refused. -/
namespace Go.Proofs.YtcfnjcacdmkgbaaDoor
open Go.RowKit Go.Ev
variable {c0:Prop} {ch0:List (Option Value)}
def rfemA_h (i:Nat):Hn:=⟨0,[],[],[],[]⟩
abbrev rfemA_R (w:List Nat) (S:FS) (e:Exit) (K:FS→Prop):Prop:=Rn Tryd.prog (cAt w (bdy Tryd.f22)) S e K 2000004
structure rfemA_c (g0 g1 t1 t2:Tq) (a1 a2:Array Value) (b1 b2:Option Addr) (l1 c1 l2 c2:Nat) (N1 N2:List Int) (z:Int):Prop where
  hz:z<0
variable {g0 g1 t1 t2:Tq} {a1 a2:Array Value} {b1 b2:Option Addr} {l1 c1 l2 c2:Nat} {N1 N2:List Int} {z:Int} {k_1:rfemA_c g0 g1 t1 t2 a1 a2 b1 b2 l1 c1 l2 c2 N1 N2 z}
abbrev rfemA (_:rfemA_c g0 g1 t1 t2 a1 a2 b1 b2 l1 c1 l2 c2 N1 N2 z):FS:=⟨true,17,[(0,.slice b1 l1 c1),(1,.slice b2 l2 c2),(2,.int .i64 z)],[((wA .u32 64 kL2),g0),((wA .u64 80 kL5),g1),(a1,t1),(a2,t2)]⟩
abbrev rfemB (_:rfemA_c g0 g1 t1 t2 a1 a2 b1 b2 l1 c1 l2 c2 N1 N2 z):FS:=⟨false,17,[(6,.slice none 0 0),(7,.int .i64 2)],[((wA .u32 64 kL2),g0),((wA .u64 80 kL5),g1),(a1,t1),(a2,t2)]⟩
theorem rfemu':rfemA_R [] (rfemA k_1) .ret (fun z_=>z_=rfemB k_1):=by
  have⟨hz⟩:=id k_1
  exact rn_ev (yty.enf tab0 2000004) rfemA_h mixed _ none [some (.bool true)] [(7,(decide (z<0))=true)] 2 (fun j M=>by kernel_rfl) (A1 (decide_eq_true (by omega)) A0) rfl
abbrev rfemA_s (g0 g1 t1 t2:Tq) (a1 a2:Array Value) (b1 b2:Option Addr) (l1 c1 l2 c2:Nat) (N1 N2:List Int) (z:Int) (j:Nat→Value):List Value:=([.slice b1 l1 c1,.slice b2 l2 c2,.int .i64 z] ++ (JU 14))
abbrev rfemA_m (g0 g1 t1 t2:Tq) (a1 a2:Array Value) (b1 b2:Option Addr) (l1 c1 l2 c2:Nat) (N1 N2:List Int) (z:Int):List Mb:= [((wA .u32 64 kL2),g0),((wA .u64 80 kL5),g1),(a1,t1),(a2,t2)]
abbrev rfemB_s (g0 g1 t1 t2:Tq) (a1 a2:Array Value) (b1 b2:Option Addr) (l1 c1 l2 c2:Nat) (N1 N2:List Int) (z:Int) (j:Nat→Value):List Value:=(J j 0 6 ++ ([.slice none 0 0,.int .i64 2] ++ (J j 8 9)))
abbrev rfemB_m (g0 g1 t1 t2:Tq) (a1 a2:Array Value) (b1 b2:Option Addr) (l1 c1 l2 c2:Nat) (N1 N2:List Int) (z:Int):List Mb:= [((wA .u32 64 kL2),g0),((wA .u64 80 kL5),g1),(a1,t1),(a2,t2)]
theorem rfemu (g0 g1 t1 t2:Tq) (a1 a2:Array Value) (b1 b2:Option Addr) (l1 c1 l2 c2:Nat) (N1 N2:List Int) (z:Int) (j:Nat→Value) (hz:z<0)  :Runs Tryd.prog (cAt [] (bdy Tryd.f22)) ⟨rfemA_s g0 g1 t1 t2 a1 a2 b1 b2 l1 c1 l2 c2 N1 N2 z j,rfemA_m g0 g1 t1 t2 a1 a2 b1 b2 l1 c1 l2 c2 N1 N2 z,c0,ch0⟩ (fun e s=>e= .ret∧∃j c ch,s=⟨rfemB_s g0 g1 t1 t2 a1 a2 b1 b2 l1 c1 l2 c2 N1 N2 z j,rfemB_m g0 g1 t1 t2 a1 a2 b1 b2 l1 c1 l2 c2 N1 N2 z,c,ch⟩) 2000004:=by
  refine(Rn.old (rfemu' (k_1:=(⟨hz⟩:rfemA_c g0 g1 t1 t2 a1 a2 b1 b2 l1 c1 l2 c2 N1 N2 z))) j (by kernel_rfl)).mono ?_
  rintro e s ⟨rfl,_,rfl,j,c,ch,rfl⟩
  exact⟨rfl,j,c,ch,by kernel_rfl⟩
theorem rfem_c (g0 g1 t1 t2:Tq) (a1 a2:Array Value) (b1 b2:Option Addr) (l1 c1 l2 c2:Nat) (z:Int) (hk:BytesOk [(wA .u32 64 kL2,g0),(wA .u64 80 kL5,g1),(a1,t1),(a2,t2)] b1 l1 c1) (ht:BytesOk [(wA .u32 64 kL2,g0),(wA .u64 80 kL5,g1),(a1,t1),(a2,t2)] b2 l2 c2) (hz:z<0):Reads Tryd.prog 22 [(wA .u32 64 kL2,g0),(wA .u64 80 kL5,g1),(a1,t1),(a2,t2)] [.slice b1 l1 c1,.slice b2 l2 c2,.int .i64 z] (.tuple #[.slice none 0 0,.int .i64 2]) 2:=by
  refine reads_runs (fk:=2000004) (yty.enf tab0 2000004) Tryd.func22 (c:=bdy Tryd.f22) (by kernel_rfl) ⟨len4 _ _ _ _,by decide⟩ (args:= [.slice b1 l1 c1,.slice b2 l2 c2,.int .i64 z]) (by show(Go.Ev.okp 4 (.slice b1 l1 c1) && (Go.Ev.okp 4 (.slice b2 l2 c2) && (Go.Ev.okp 4 (.int .i64 z) && true)))=true;rw[show Go.Ev.okp 4 (.slice b1 l1 c1)=true from hk.okp,show Go.Ev.okp 4 (.slice b2 l2 c2)=true from ht.okp];rfl) (K:=fun e s=>e= .ret∧resS (yty.enf tab0 2000004) s Tryd.f22.results.toList=some [.slice none 0 0,.int .i64 2]) ?_ (fun e s h=>⟨h.1,_,h.2,rfl⟩)
  refine(rfemu g0 g1 t1 t2 a1 a2 b1 b2 l1 c1 l2 c2 [] [] z (fun _=>undef) hz).mono ?_
  rintro e s ⟨rfl,j,c,ch,rfl⟩
  exact⟨rfl,by kernel_rfl⟩
def prfem : Entry Tryd.prog where
  f:=22
  ng:=2
  g := fun mem xs => match xs with
    | [.slice bp l cp, .slice bq m cq, .int .i64 z] => (match mem[0]?, mem[1]? with
      |some (x0,_),some (x1,_)=>some (.tuple #[.slice none 0 0,.int .i64 2],(x0=wA .u32 64 kL2∧x1=wA .u64 80 kL5∧BytesOk mem bp l cp∧BytesOk mem bq m cq∧z<0))
      |_,_=>none)
    |_=>none
  ok := fun mem xs v c e hc w β hw hg => by
    split at e
    · rename_i bp l cp bq m cq z
      split at e
      · rename_i x0 g0 x1 g1 h0 h1
        simp only[Option.some.injEq,Prod.mk.injEq] at e
        obtain⟨rfl,rfl⟩:=e
        obtain⟨rfl,rfl,hB,hC,hz⟩:=hc
        refine lift2 (post:= [.int .i64 z]) rfl hB hC h0 h1 (fun y z' q r h2 h3 h4 h5=> ?_) hw (hg 0 (by decide)) (hg 1 (by decide))
        exact rfem_c g0 g1 y.2 z'.2 y.1 z'.1 q r l cp m cq z h2 h4 hz
      · cases e
    · cases e
  call:=call_of Tryd.func22 (by kernel_rfl) (by kernel_rfl)
def rfepA_h (i:Nat):Hn:=⟨0,[],[],[],[]⟩
abbrev rfepA_R (w:List Nat) (S:FS) (e:Exit) (K:FS→Prop):Prop:=Rn Tryd.prog (cAt w (bdy Tryd.f22)) S e K 2000004
structure rfepA_c (g0 g1 t1 t2:Tq) (a1 a2:Array Value) (b1 b2:Option Addr) (l1 c1 l2 c2:Nat) (N1 N2:List Int) (z:Int):Prop where
  hz:8160<z
variable {k_2:rfepA_c g0 g1 t1 t2 a1 a2 b1 b2 l1 c1 l2 c2 N1 N2 z}
abbrev rfepA (_:rfepA_c g0 g1 t1 t2 a1 a2 b1 b2 l1 c1 l2 c2 N1 N2 z):FS:=⟨true,17,[(0,.slice b1 l1 c1),(1,.slice b2 l2 c2),(2,.int .i64 z)],[((wA .u32 64 kL2),g0),((wA .u64 80 kL5),g1),(a1,t1),(a2,t2)]⟩
abbrev rfepB (_:rfepA_c g0 g1 t1 t2 a1 a2 b1 b2 l1 c1 l2 c2 N1 N2 z):FS:=⟨false,17,[(6,.slice none 0 0),(7,.int .i64 3)],[((wA .u32 64 kL2),g0),((wA .u64 80 kL5),g1),(a1,t1),(a2,t2)]⟩
theorem rfepu':rfepA_R [] (rfepA k_2) .ret (fun z_=>z_=rfepB k_2):=by
  have⟨hz⟩:=id k_2
  exact rn_ev (yty.enf tab0 2000004) rfepA_h mixed _ none [some (.bool false),some (.bool true)] [(7,(decide (z<0))=false),(3,(decide (8160<z))=true)] 2 (fun j M=>by kernel_rfl) (A1 (decide_eq_false (by omega)) (A1 (decide_eq_true (by omega)) A0)) rfl
abbrev rfepA_s (g0 g1 t1 t2:Tq) (a1 a2:Array Value) (b1 b2:Option Addr) (l1 c1 l2 c2:Nat) (N1 N2:List Int) (z:Int) (j:Nat→Value):List Value:=([.slice b1 l1 c1,.slice b2 l2 c2,.int .i64 z] ++ (JU 14))
abbrev rfepA_m (g0 g1 t1 t2:Tq) (a1 a2:Array Value) (b1 b2:Option Addr) (l1 c1 l2 c2:Nat) (N1 N2:List Int) (z:Int):List Mb:= [((wA .u32 64 kL2),g0),((wA .u64 80 kL5),g1),(a1,t1),(a2,t2)]
abbrev rfepB_s (g0 g1 t1 t2:Tq) (a1 a2:Array Value) (b1 b2:Option Addr) (l1 c1 l2 c2:Nat) (N1 N2:List Int) (z:Int) (j:Nat→Value):List Value:=(J j 0 6 ++ ([.slice none 0 0,.int .i64 3] ++ (J j 8 9)))
abbrev rfepB_m (g0 g1 t1 t2:Tq) (a1 a2:Array Value) (b1 b2:Option Addr) (l1 c1 l2 c2:Nat) (N1 N2:List Int) (z:Int):List Mb:= [((wA .u32 64 kL2),g0),((wA .u64 80 kL5),g1),(a1,t1),(a2,t2)]
theorem rfepu (g0 g1 t1 t2:Tq) (a1 a2:Array Value) (b1 b2:Option Addr) (l1 c1 l2 c2:Nat) (N1 N2:List Int) (z:Int) (j:Nat→Value) (hz:8160<z)  :Runs Tryd.prog (cAt [] (bdy Tryd.f22)) ⟨rfepA_s g0 g1 t1 t2 a1 a2 b1 b2 l1 c1 l2 c2 N1 N2 z j,rfepA_m g0 g1 t1 t2 a1 a2 b1 b2 l1 c1 l2 c2 N1 N2 z,c0,ch0⟩ (fun e s=>e= .ret∧∃j c ch,s=⟨rfepB_s g0 g1 t1 t2 a1 a2 b1 b2 l1 c1 l2 c2 N1 N2 z j,rfepB_m g0 g1 t1 t2 a1 a2 b1 b2 l1 c1 l2 c2 N1 N2 z,c,ch⟩) 2000004:=by
  refine(Rn.old (rfepu' (k_2:=(⟨hz⟩:rfepA_c g0 g1 t1 t2 a1 a2 b1 b2 l1 c1 l2 c2 N1 N2 z))) j (by kernel_rfl)).mono ?_
  rintro e s ⟨rfl,_,rfl,j,c,ch,rfl⟩
  exact⟨rfl,j,c,ch,by kernel_rfl⟩
theorem rfep_c (g0 g1 t1 t2:Tq) (a1 a2:Array Value) (b1 b2:Option Addr) (l1 c1 l2 c2:Nat) (z:Int) (hk:BytesOk [(wA .u32 64 kL2,g0),(wA .u64 80 kL5,g1),(a1,t1),(a2,t2)] b1 l1 c1) (ht:BytesOk [(wA .u32 64 kL2,g0),(wA .u64 80 kL5,g1),(a1,t1),(a2,t2)] b2 l2 c2) (hz:8160<z):Reads Tryd.prog 22 [(wA .u32 64 kL2,g0),(wA .u64 80 kL5,g1),(a1,t1),(a2,t2)] [.slice b1 l1 c1,.slice b2 l2 c2,.int .i64 z] (.tuple #[.slice none 0 0,.int .i64 3]) 2:=by
  refine reads_runs (fk:=2000004) (yty.enf tab0 2000004) Tryd.func22 (c:=bdy Tryd.f22) (by kernel_rfl) ⟨len4 _ _ _ _,by decide⟩ (args:= [.slice b1 l1 c1,.slice b2 l2 c2,.int .i64 z]) (by show(Go.Ev.okp 4 (.slice b1 l1 c1) && (Go.Ev.okp 4 (.slice b2 l2 c2) && (Go.Ev.okp 4 (.int .i64 z) && true)))=true;rw[show Go.Ev.okp 4 (.slice b1 l1 c1)=true from hk.okp,show Go.Ev.okp 4 (.slice b2 l2 c2)=true from ht.okp];rfl) (K:=fun e s=>e= .ret∧resS (yty.enf tab0 2000004) s Tryd.f22.results.toList=some [.slice none 0 0,.int .i64 3]) ?_ (fun e s h=>⟨h.1,_,h.2,rfl⟩)
  refine(rfepu g0 g1 t1 t2 a1 a2 b1 b2 l1 c1 l2 c2 [] [] z (fun _=>undef) hz).mono ?_
  rintro e s ⟨rfl,j,c,ch,rfl⟩
  exact⟨rfl,by kernel_rfl⟩
def prfep : Entry Tryd.prog where
  f:=22
  ng:=2
  g := fun mem xs => match xs with
    | [.slice bp l cp, .slice bq m cq, .int .i64 z] => (match mem[0]?, mem[1]? with
      |some (x0,_),some (x1,_)=>some (.tuple #[.slice none 0 0,.int .i64 3],(x0=wA .u32 64 kL2∧x1=wA .u64 80 kL5∧BytesOk mem bp l cp∧BytesOk mem bq m cq∧8160<z))
      |_,_=>none)
    |_=>none
  ok := fun mem xs v c e hc w β hw hg => by
    split at e
    · rename_i bp l cp bq m cq z
      split at e
      · rename_i x0 g0 x1 g1 h0 h1
        simp only[Option.some.injEq,Prod.mk.injEq] at e
        obtain⟨rfl,rfl⟩:=e
        obtain⟨rfl,rfl,hB,hC,hz⟩:=hc
        refine lift2 (post:= [.int .i64 z]) rfl hB hC h0 h1 (fun y z' q r h2 h3 h4 h5=> ?_) hw (hg 0 (by decide)) (hg 1 (by decide))
        exact rfep_c g0 g1 y.2 z'.2 y.1 z'.1 q r l cp m cq z h2 h4 hz
      · cases e
    · cases e
  call:=call_of Tryd.func22 (by kernel_rfl) (by kernel_rfl)
def rfdmA_h (i:Nat):Hn:=⟨0,[],[],[],[]⟩
abbrev rfdmA_R (w:List Nat) (S:FS) (e:Exit) (K:FS→Prop):Prop:=Rn Tryd.prog (cAt w (bdy Tryd.f23)) S e K 2000004
structure rfdmA_c (g0 g1 t1 t2:Tq) (a1 a2:Array Value) (b1 b2:Option Addr) (l1 c1 l2 c2:Nat) (N1 N2:List Int) (z:Int):Prop where
  hz:z<0
variable {k_3:rfdmA_c g0 g1 t1 t2 a1 a2 b1 b2 l1 c1 l2 c2 N1 N2 z}
abbrev rfdmA (_:rfdmA_c g0 g1 t1 t2 a1 a2 b1 b2 l1 c1 l2 c2 N1 N2 z):FS:=⟨true,49,[(0,.slice b1 l1 c1),(1,.slice b2 l2 c2),(2,.int .i64 z)],[((wA .u32 64 kL2),g0),((wA .u64 80 kL5),g1),(a1,t1),(a2,t2)]⟩
abbrev rfdmB (_:rfdmA_c g0 g1 t1 t2 a1 a2 b1 b2 l1 c1 l2 c2 N1 N2 z):FS:=⟨false,49,[(6,.slice none 0 0),(7,.int .i64 2)],[((wA .u32 64 kL2),g0),((wA .u64 80 kL5),g1),(a1,t1),(a2,t2)]⟩
theorem rfdmu':rfdmA_R [] (rfdmA k_3) .ret (fun z_=>z_=rfdmB k_3):=by
  have⟨hz⟩:=id k_3
  exact rn_ev (yty.enf tab0 2000004) rfdmA_h mixed _ none [some (.bool true)] [(7,(decide (z<0))=true)] 2 (fun j M=>by kernel_rfl) (A1 (decide_eq_true (by omega)) A0) rfl
abbrev rfdmA_s (g0 g1 t1 t2:Tq) (a1 a2:Array Value) (b1 b2:Option Addr) (l1 c1 l2 c2:Nat) (N1 N2:List Int) (z:Int) (j:Nat→Value):List Value:=([.slice b1 l1 c1,.slice b2 l2 c2,.int .i64 z] ++ (JU 46))
abbrev rfdmA_m (g0 g1 t1 t2:Tq) (a1 a2:Array Value) (b1 b2:Option Addr) (l1 c1 l2 c2:Nat) (N1 N2:List Int) (z:Int):List Mb:= [((wA .u32 64 kL2),g0),((wA .u64 80 kL5),g1),(a1,t1),(a2,t2)]
abbrev rfdmB_s (g0 g1 t1 t2:Tq) (a1 a2:Array Value) (b1 b2:Option Addr) (l1 c1 l2 c2:Nat) (N1 N2:List Int) (z:Int) (j:Nat→Value):List Value:=(J j 0 6 ++ ([.slice none 0 0,.int .i64 2] ++ (J j 8 41)))
abbrev rfdmB_m (g0 g1 t1 t2:Tq) (a1 a2:Array Value) (b1 b2:Option Addr) (l1 c1 l2 c2:Nat) (N1 N2:List Int) (z:Int):List Mb:= [((wA .u32 64 kL2),g0),((wA .u64 80 kL5),g1),(a1,t1),(a2,t2)]
theorem rfdmu (g0 g1 t1 t2:Tq) (a1 a2:Array Value) (b1 b2:Option Addr) (l1 c1 l2 c2:Nat) (N1 N2:List Int) (z:Int) (j:Nat→Value) (hz:z<0)  :Runs Tryd.prog (cAt [] (bdy Tryd.f23)) ⟨rfdmA_s g0 g1 t1 t2 a1 a2 b1 b2 l1 c1 l2 c2 N1 N2 z j,rfdmA_m g0 g1 t1 t2 a1 a2 b1 b2 l1 c1 l2 c2 N1 N2 z,c0,ch0⟩ (fun e s=>e= .ret∧∃j c ch,s=⟨rfdmB_s g0 g1 t1 t2 a1 a2 b1 b2 l1 c1 l2 c2 N1 N2 z j,rfdmB_m g0 g1 t1 t2 a1 a2 b1 b2 l1 c1 l2 c2 N1 N2 z,c,ch⟩) 2000004:=by
  refine(Rn.old (rfdmu' (k_3:=(⟨hz⟩:rfdmA_c g0 g1 t1 t2 a1 a2 b1 b2 l1 c1 l2 c2 N1 N2 z))) j (by kernel_rfl)).mono ?_
  rintro e s ⟨rfl,_,rfl,j,c,ch,rfl⟩
  exact⟨rfl,j,c,ch,by kernel_rfl⟩
theorem rfdm_c (g0 g1 t1 t2:Tq) (a1 a2:Array Value) (b1 b2:Option Addr) (l1 c1 l2 c2:Nat) (z:Int) (hk:BytesOk [(wA .u32 64 kL2,g0),(wA .u64 80 kL5,g1),(a1,t1),(a2,t2)] b1 l1 c1) (ht:BytesOk [(wA .u32 64 kL2,g0),(wA .u64 80 kL5,g1),(a1,t1),(a2,t2)] b2 l2 c2) (hz:z<0):Reads Tryd.prog 23 [(wA .u32 64 kL2,g0),(wA .u64 80 kL5,g1),(a1,t1),(a2,t2)] [.slice b1 l1 c1,.slice b2 l2 c2,.int .i64 z] (.tuple #[.slice none 0 0,.int .i64 2]) 2:=by
  refine reads_runs (fk:=2000004) (yty.enf tab0 2000004) Tryd.func23 (c:=bdy Tryd.f23) (by kernel_rfl) ⟨len4 _ _ _ _,by decide⟩ (args:= [.slice b1 l1 c1,.slice b2 l2 c2,.int .i64 z]) (by show(Go.Ev.okp 4 (.slice b1 l1 c1) && (Go.Ev.okp 4 (.slice b2 l2 c2) && (Go.Ev.okp 4 (.int .i64 z) && true)))=true;rw[show Go.Ev.okp 4 (.slice b1 l1 c1)=true from hk.okp,show Go.Ev.okp 4 (.slice b2 l2 c2)=true from ht.okp];rfl) (K:=fun e s=>e= .ret∧resS (yty.enf tab0 2000004) s Tryd.f23.results.toList=some [.slice none 0 0,.int .i64 2]) ?_ (fun e s h=>⟨h.1,_,h.2,rfl⟩)
  refine(rfdmu g0 g1 t1 t2 a1 a2 b1 b2 l1 c1 l2 c2 [] [] z (fun _=>undef) hz).mono ?_
  rintro e s ⟨rfl,j,c,ch,rfl⟩
  exact⟨rfl,by kernel_rfl⟩
def prfdm : Entry Tryd.prog where
  f:=23
  ng:=2
  g := fun mem xs => match xs with
    | [.slice bp l cp, .slice bq m cq, .int .i64 z] => (match mem[0]?, mem[1]? with
      |some (x0,_),some (x1,_)=>some (.tuple #[.slice none 0 0,.int .i64 2],(x0=wA .u32 64 kL2∧x1=wA .u64 80 kL5∧BytesOk mem bp l cp∧BytesOk mem bq m cq∧z<0))
      |_,_=>none)
    |_=>none
  ok := fun mem xs v c e hc w β hw hg => by
    split at e
    · rename_i bp l cp bq m cq z
      split at e
      · rename_i x0 g0 x1 g1 h0 h1
        simp only[Option.some.injEq,Prod.mk.injEq] at e
        obtain⟨rfl,rfl⟩:=e
        obtain⟨rfl,rfl,hB,hC,hz⟩:=hc
        refine lift2 (post:= [.int .i64 z]) rfl hB hC h0 h1 (fun y z' q r h2 h3 h4 h5=> ?_) hw (hg 0 (by decide)) (hg 1 (by decide))
        exact rfdm_c g0 g1 y.2 z'.2 y.1 z'.1 q r l cp m cq z h2 h4 hz
      · cases e
    · cases e
  call:=call_of Tryd.func23 (by kernel_rfl) (by kernel_rfl)
def rfdpA_h (i:Nat):Hn:=⟨0,[],[],[],[]⟩
abbrev rfdpA_R (w:List Nat) (S:FS) (e:Exit) (K:FS→Prop):Prop:=Rn Tryd.prog (cAt w (bdy Tryd.f23)) S e K 2000004
structure rfdpA_c (g0 g1 t1 t2:Tq) (a1 a2:Array Value) (b1 b2:Option Addr) (l1 c1 l2 c2:Nat) (N1 N2:List Int) (z:Int):Prop where
  hz:8160<z
variable {k_4:rfdpA_c g0 g1 t1 t2 a1 a2 b1 b2 l1 c1 l2 c2 N1 N2 z}
abbrev rfdpA (_:rfdpA_c g0 g1 t1 t2 a1 a2 b1 b2 l1 c1 l2 c2 N1 N2 z):FS:=⟨true,49,[(0,.slice b1 l1 c1),(1,.slice b2 l2 c2),(2,.int .i64 z)],[((wA .u32 64 kL2),g0),((wA .u64 80 kL5),g1),(a1,t1),(a2,t2)]⟩
abbrev rfdpB (_:rfdpA_c g0 g1 t1 t2 a1 a2 b1 b2 l1 c1 l2 c2 N1 N2 z):FS:=⟨false,49,[(6,.slice none 0 0),(7,.int .i64 3)],[((wA .u32 64 kL2),g0),((wA .u64 80 kL5),g1),(a1,t1),(a2,t2)]⟩
theorem rfdpu':rfdpA_R [] (rfdpA k_4) .ret (fun z_=>z_=rfdpB k_4):=by
  have⟨hz⟩:=id k_4
  exact rn_ev (yty.enf tab0 2000004) rfdpA_h mixed _ none [some (.bool false),some (.bool true)] [(7,(decide (z<0))=false),(3,(decide (8160<z))=true)] 2 (fun j M=>by kernel_rfl) (A1 (decide_eq_false (by omega)) (A1 (decide_eq_true (by omega)) A0)) rfl
abbrev rfdpA_s (g0 g1 t1 t2:Tq) (a1 a2:Array Value) (b1 b2:Option Addr) (l1 c1 l2 c2:Nat) (N1 N2:List Int) (z:Int) (j:Nat→Value):List Value:=([.slice b1 l1 c1,.slice b2 l2 c2,.int .i64 z] ++ (JU 46))
abbrev rfdpA_m (g0 g1 t1 t2:Tq) (a1 a2:Array Value) (b1 b2:Option Addr) (l1 c1 l2 c2:Nat) (N1 N2:List Int) (z:Int):List Mb:= [((wA .u32 64 kL2),g0),((wA .u64 80 kL5),g1),(a1,t1),(a2,t2)]
abbrev rfdpB_s (g0 g1 t1 t2:Tq) (a1 a2:Array Value) (b1 b2:Option Addr) (l1 c1 l2 c2:Nat) (N1 N2:List Int) (z:Int) (j:Nat→Value):List Value:=(J j 0 6 ++ ([.slice none 0 0,.int .i64 3] ++ (J j 8 41)))
abbrev rfdpB_m (g0 g1 t1 t2:Tq) (a1 a2:Array Value) (b1 b2:Option Addr) (l1 c1 l2 c2:Nat) (N1 N2:List Int) (z:Int):List Mb:= [((wA .u32 64 kL2),g0),((wA .u64 80 kL5),g1),(a1,t1),(a2,t2)]
theorem rfdpu (g0 g1 t1 t2:Tq) (a1 a2:Array Value) (b1 b2:Option Addr) (l1 c1 l2 c2:Nat) (N1 N2:List Int) (z:Int) (j:Nat→Value) (hz:8160<z)  :Runs Tryd.prog (cAt [] (bdy Tryd.f23)) ⟨rfdpA_s g0 g1 t1 t2 a1 a2 b1 b2 l1 c1 l2 c2 N1 N2 z j,rfdpA_m g0 g1 t1 t2 a1 a2 b1 b2 l1 c1 l2 c2 N1 N2 z,c0,ch0⟩ (fun e s=>e= .ret∧∃j c ch,s=⟨rfdpB_s g0 g1 t1 t2 a1 a2 b1 b2 l1 c1 l2 c2 N1 N2 z j,rfdpB_m g0 g1 t1 t2 a1 a2 b1 b2 l1 c1 l2 c2 N1 N2 z,c,ch⟩) 2000004:=by
  refine(Rn.old (rfdpu' (k_4:=(⟨hz⟩:rfdpA_c g0 g1 t1 t2 a1 a2 b1 b2 l1 c1 l2 c2 N1 N2 z))) j (by kernel_rfl)).mono ?_
  rintro e s ⟨rfl,_,rfl,j,c,ch,rfl⟩
  exact⟨rfl,j,c,ch,by kernel_rfl⟩
theorem rfdp_c (g0 g1 t1 t2:Tq) (a1 a2:Array Value) (b1 b2:Option Addr) (l1 c1 l2 c2:Nat) (z:Int) (hk:BytesOk [(wA .u32 64 kL2,g0),(wA .u64 80 kL5,g1),(a1,t1),(a2,t2)] b1 l1 c1) (ht:BytesOk [(wA .u32 64 kL2,g0),(wA .u64 80 kL5,g1),(a1,t1),(a2,t2)] b2 l2 c2) (hz:8160<z):Reads Tryd.prog 23 [(wA .u32 64 kL2,g0),(wA .u64 80 kL5,g1),(a1,t1),(a2,t2)] [.slice b1 l1 c1,.slice b2 l2 c2,.int .i64 z] (.tuple #[.slice none 0 0,.int .i64 3]) 2:=by
  refine reads_runs (fk:=2000004) (yty.enf tab0 2000004) Tryd.func23 (c:=bdy Tryd.f23) (by kernel_rfl) ⟨len4 _ _ _ _,by decide⟩ (args:= [.slice b1 l1 c1,.slice b2 l2 c2,.int .i64 z]) (by show(Go.Ev.okp 4 (.slice b1 l1 c1) && (Go.Ev.okp 4 (.slice b2 l2 c2) && (Go.Ev.okp 4 (.int .i64 z) && true)))=true;rw[show Go.Ev.okp 4 (.slice b1 l1 c1)=true from hk.okp,show Go.Ev.okp 4 (.slice b2 l2 c2)=true from ht.okp];rfl) (K:=fun e s=>e= .ret∧resS (yty.enf tab0 2000004) s Tryd.f23.results.toList=some [.slice none 0 0,.int .i64 3]) ?_ (fun e s h=>⟨h.1,_,h.2,rfl⟩)
  refine(rfdpu g0 g1 t1 t2 a1 a2 b1 b2 l1 c1 l2 c2 [] [] z (fun _=>undef) hz).mono ?_
  rintro e s ⟨rfl,j,c,ch,rfl⟩
  exact⟨rfl,by kernel_rfl⟩
def prfdp : Entry Tryd.prog where
  f:=23
  ng:=2
  g := fun mem xs => match xs with
    | [.slice bp l cp, .slice bq m cq, .int .i64 z] => (match mem[0]?, mem[1]? with
      |some (x0,_),some (x1,_)=>some (.tuple #[.slice none 0 0,.int .i64 3],(x0=wA .u32 64 kL2∧x1=wA .u64 80 kL5∧BytesOk mem bp l cp∧BytesOk mem bq m cq∧8160<z))
      |_,_=>none)
    |_=>none
  ok := fun mem xs v c e hc w β hw hg => by
    split at e
    · rename_i bp l cp bq m cq z
      split at e
      · rename_i x0 g0 x1 g1 h0 h1
        simp only[Option.some.injEq,Prod.mk.injEq] at e
        obtain⟨rfl,rfl⟩:=e
        obtain⟨rfl,rfl,hB,hC,hz⟩:=hc
        refine lift2 (post:= [.int .i64 z]) rfl hB hC h0 h1 (fun y z' q r h2 h3 h4 h5=> ?_) hw (hg 0 (by decide)) (hg 1 (by decide))
        exact rfdp_c g0 g1 y.2 z'.2 y.1 z'.1 q r l cp m cq z h2 h4 hz
      · cases e
    · cases e
  call:=call_of Tryd.func23 (by kernel_rfl) (by kernel_rfl)
def rfd0A_h (i:Nat):Hn:=⟨0,[],[],[],[]⟩
abbrev rfd0A_R (w:List Nat) (S:FS) (e:Exit) (K:FS→Prop):Prop:=Rn Tryd.prog (cAt w (bdy Tryd.f23)) S e K 2000004
structure rfd0A_c (g0 g1 t1 t2:Tq) (a1 a2:Array Value) (b1 b2:Option Addr) (l1 c1 l2 c2:Nat) (N1 N2:List Int) (z:Int):Prop where
  hz:z=0
variable {k_5:rfd0A_c g0 g1 t1 t2 a1 a2 b1 b2 l1 c1 l2 c2 N1 N2 z}
abbrev rfd0A (_:rfd0A_c g0 g1 t1 t2 a1 a2 b1 b2 l1 c1 l2 c2 N1 N2 z):FS:=⟨true,49,[(0,.slice b1 l1 c1),(1,.slice b2 l2 c2),(2,.int .i64 z)],[((wA .u32 64 kL2),g0),((wA .u64 80 kL5),g1),(a1,t1),(a2,t2)]⟩
abbrev rfd0B (_:rfd0A_c g0 g1 t1 t2 a1 a2 b1 b2 l1 c1 l2 c2 N1 N2 z):FS:=⟨false,49,[(6,.slice none 0 0),(7,.int .i64 0)],[((wA .u32 64 kL2),g0),((wA .u64 80 kL5),g1),(a1,t1),(a2,t2)]⟩
theorem rfd0u':rfd0A_R [] (rfd0A k_5) .ret (fun z_=>z_=rfd0B k_5):=by
  have⟨hz⟩:=id k_5
  exact rn_ev (yty.enf tab0 2000004) rfd0A_h mixed _ none [some (.bool false),some (.bool false),some (.bool false)] [(7,(decide (z<0))=false),(3,(decide (8160<z))=false),(11,(decide (0<z))=false)] 3 (fun j M=>by kernel_rfl) (A1 (decide_eq_false (by omega)) (A1 (decide_eq_false (by omega)) (A1 (decide_eq_false (by omega)) A0))) rfl
abbrev rfd0A_s (g0 g1 t1 t2:Tq) (a1 a2:Array Value) (b1 b2:Option Addr) (l1 c1 l2 c2:Nat) (N1 N2:List Int) (z:Int) (j:Nat→Value):List Value:=([.slice b1 l1 c1,.slice b2 l2 c2,.int .i64 z] ++ (JU 46))
abbrev rfd0A_m (g0 g1 t1 t2:Tq) (a1 a2:Array Value) (b1 b2:Option Addr) (l1 c1 l2 c2:Nat) (N1 N2:List Int) (z:Int):List Mb:= [((wA .u32 64 kL2),g0),((wA .u64 80 kL5),g1),(a1,t1),(a2,t2)]
abbrev rfd0B_s (g0 g1 t1 t2:Tq) (a1 a2:Array Value) (b1 b2:Option Addr) (l1 c1 l2 c2:Nat) (N1 N2:List Int) (z:Int) (j:Nat→Value):List Value:=(J j 0 6 ++ ([.slice none 0 0,.int .i64 0] ++ (J j 8 41)))
abbrev rfd0B_m (g0 g1 t1 t2:Tq) (a1 a2:Array Value) (b1 b2:Option Addr) (l1 c1 l2 c2:Nat) (N1 N2:List Int) (z:Int):List Mb:= [((wA .u32 64 kL2),g0),((wA .u64 80 kL5),g1),(a1,t1),(a2,t2)]
theorem rfd0u (g0 g1 t1 t2:Tq) (a1 a2:Array Value) (b1 b2:Option Addr) (l1 c1 l2 c2:Nat) (N1 N2:List Int) (z:Int) (j:Nat→Value) (hz:z=0)  :Runs Tryd.prog (cAt [] (bdy Tryd.f23)) ⟨rfd0A_s g0 g1 t1 t2 a1 a2 b1 b2 l1 c1 l2 c2 N1 N2 z j,rfd0A_m g0 g1 t1 t2 a1 a2 b1 b2 l1 c1 l2 c2 N1 N2 z,c0,ch0⟩ (fun e s=>e= .ret∧∃j c ch,s=⟨rfd0B_s g0 g1 t1 t2 a1 a2 b1 b2 l1 c1 l2 c2 N1 N2 z j,rfd0B_m g0 g1 t1 t2 a1 a2 b1 b2 l1 c1 l2 c2 N1 N2 z,c,ch⟩) 2000004:=by
  refine(Rn.old (rfd0u' (k_5:=(⟨hz⟩:rfd0A_c g0 g1 t1 t2 a1 a2 b1 b2 l1 c1 l2 c2 N1 N2 z))) j (by kernel_rfl)).mono ?_
  rintro e s ⟨rfl,_,rfl,j,c,ch,rfl⟩
  exact⟨rfl,j,c,ch,by kernel_rfl⟩
theorem rfd0_c (g0 g1 t1 t2:Tq) (a1 a2:Array Value) (b1 b2:Option Addr) (l1 c1 l2 c2:Nat) (z:Int) (hk:BytesOk [(wA .u32 64 kL2,g0),(wA .u64 80 kL5,g1),(a1,t1),(a2,t2)] b1 l1 c1) (ht:BytesOk [(wA .u32 64 kL2,g0),(wA .u64 80 kL5,g1),(a1,t1),(a2,t2)] b2 l2 c2) (hz:z=0):Reads Tryd.prog 23 [(wA .u32 64 kL2,g0),(wA .u64 80 kL5,g1),(a1,t1),(a2,t2)] [.slice b1 l1 c1,.slice b2 l2 c2,.int .i64 z] (.tuple #[.slice none 0 0,.int .i64 0]) 2:=by
  refine reads_runs (fk:=2000004) (yty.enf tab0 2000004) Tryd.func23 (c:=bdy Tryd.f23) (by kernel_rfl) ⟨len4 _ _ _ _,by decide⟩ (args:= [.slice b1 l1 c1,.slice b2 l2 c2,.int .i64 z]) (by show(Go.Ev.okp 4 (.slice b1 l1 c1) && (Go.Ev.okp 4 (.slice b2 l2 c2) && (Go.Ev.okp 4 (.int .i64 z) && true)))=true;rw[show Go.Ev.okp 4 (.slice b1 l1 c1)=true from hk.okp,show Go.Ev.okp 4 (.slice b2 l2 c2)=true from ht.okp];rfl) (K:=fun e s=>e= .ret∧resS (yty.enf tab0 2000004) s Tryd.f23.results.toList=some [.slice none 0 0,.int .i64 0]) ?_ (fun e s h=>⟨h.1,_,h.2,rfl⟩)
  refine(rfd0u g0 g1 t1 t2 a1 a2 b1 b2 l1 c1 l2 c2 [] [] z (fun _=>undef) hz).mono ?_
  rintro e s ⟨rfl,j,c,ch,rfl⟩
  exact⟨rfl,by kernel_rfl⟩
def prfd0 : Entry Tryd.prog where
  f:=23
  ng:=2
  g := fun mem xs => match xs with
    | [.slice bp l cp, .slice bq m cq, .int .i64 z] => (match mem[0]?, mem[1]? with
      |some (x0,_),some (x1,_)=>some (.tuple #[.slice none 0 0,.int .i64 0],(x0=wA .u32 64 kL2∧x1=wA .u64 80 kL5∧BytesOk mem bp l cp∧BytesOk mem bq m cq∧z=0))
      |_,_=>none)
    |_=>none
  ok := fun mem xs v c e hc w β hw hg => by
    split at e
    · rename_i bp l cp bq m cq z
      split at e
      · rename_i x0 g0 x1 g1 h0 h1
        simp only[Option.some.injEq,Prod.mk.injEq] at e
        obtain⟨rfl,rfl⟩:=e
        obtain⟨rfl,rfl,hB,hC,hz⟩:=hc
        refine lift2 (post:= [.int .i64 z]) rfl hB hC h0 h1 (fun y z' q r h2 h3 h4 h5=> ?_) hw (hg 0 (by decide)) (hg 1 (by decide))
        exact rfd0_c g0 g1 y.2 z'.2 y.1 z'.1 q r l cp m cq z h2 h4 hz
      · cases e
    · cases e
  call:=call_of Tryd.func23 (by kernel_rfl) (by kernel_rfl)
end Go.Proofs.YtcfnjcacdmkgbaaDoor

set_option linter.unusedSimpArgs false
set_option linter.unusedVariables false
/-! mac: what is refused. -/
namespace Go.Proofs.YtcfnjcacdmkgbaaDoor
open Go.RowKit Go.Ev
variable {c0:Prop} {ch0:List (Option Value)}
theorem lentN {N:List Int} {l c:Nat} (hb:∀ x ∈ N,0≤x∧x<256) (hl:N.length=l) (hc:(N ++ [77]).length≤c):bytesAt (wA .u8 c (N ++ [77])) 0 l∧bL (wA .u8 c (N ++ [77])) 0 l=N:=by
  simp only[List.length_append,List.length_cons,List.length_nil] at hc
  have e:∀ j,j<l→iat (wA .u8 c (N ++ [77])) (0+j)=N.getD j 0:=fun j hj=>by
    unfold iat
    rw[Nat.zero_add,wA_at (by omega),getD_app,if_pos (by omega)]
  refine⟨fun j hj=> ?_,?_⟩
  · rw [e j hj]
    have hm:N.getD j 0 ∈ N:=by
      rw[List.getD_eq_getElem?_getD,List.getElem?_eq_getElem (by omega),Option.getD_some]
      exact List.getElem_mem _
    refine⟨?_,hb _ hm⟩
    rw[Nat.zero_add,wA_at (by omega),getD_app,if_pos (by omega)]
  · apply List.ext_getElem?
    intro j
    by_cases hj:j<l
    · unfold bL
      rw[List.getElem?_map,List.getElem?_range hj,Option.map_some,e j hj,List.getD_eq_getElem?_getD,List.getElem?_eq_getElem (by omega),Option.getD_some]
    · rw[List.getElem?_eq_none (by rw[bL_len];omega),List.getElem?_eq_none (by omega)]
theorem lentOk {mem:List Mb} {i:Nat} {N:List Int} {l c:Nat} {t:Tq} (hb:∀ x ∈ N,0≤x∧x<256) (hl:N.length=l) (hc:(N ++ [77]).length≤c) (hm:mem[i]? =some (wA .u8 c (N ++ [77]),t)):BytesOk mem (some ⟨i,0,none⟩) l c:=by
  have h:=hc
  simp only[List.length_append,List.length_cons,List.length_nil] at h
  exact .inr ⟨i,0,_,t,rfl,hm,(lentN hb hl hc).1,by rw[wA_size];omega,by omega⟩
def yvA_h (i:Nat):Hn:=⟨0,[],[],[],[]⟩
abbrev yvA_R (w:List Nat) (S:FS) (e:Exit) (K:FS→Prop):Prop:=Rn Tryd.prog (cAt w (bdy Tryd.f5)) S e K 2000004
structure yvA_c (g0 g1 t1 t2:Tq) (a1 a2:Array Value) (b1 b2:Option Addr) (l1 c1 l2 c2:Nat) (N1 N2:List Int) (z:Int):Prop where
  hk:BytesOk [(wA .u32 64 kL2,g0),(wA .u64 80 kL5,g1),(a1,t1),(a2,t2)] b1 l1 c1
  hN1:bytesOf [(wA .u32 64 kL2,g0),(wA .u64 80 kL5,g1),(a1,t1),(a2,t2)] b1 l1=N1
  ht:BytesOk [(wA .u32 64 kL2,g0),(wA .u64 80 kL5,g1),(a1,t1),(a2,t2)] b2 l2 c2
  hN2:bytesOf [(wA .u32 64 kL2,g0),(wA .u64 80 kL5,g1),(a1,t1),(a2,t2)] b2 l2=N2
  hl1:l1≤2000
  hl2:l2≤2000
  hz:z<0
variable {g0 g1 t1 t2:Tq} {a1 a2:Array Value} {b1 b2:Option Addr} {l1 c1 l2 c2:Nat} {N1 N2:List Int} {z:Int} {k_1:yvA_c g0 g1 t1 t2 a1 a2 b1 b2 l1 c1 l2 c2 N1 N2 z}
abbrev yvA (_:yvA_c g0 g1 t1 t2 a1 a2 b1 b2 l1 c1 l2 c2 N1 N2 z):FS:=⟨true,71,[(0,.slice b1 l1 c1),(1,.slice b2 l2 c2),(2,.int .i64 z)],[((wA .u32 64 kL2),g0),((wA .u64 80 kL5),g1),(a1,t1),(a2,t2)]⟩
abbrev yvB (_:yvA_c g0 g1 t1 t2 a1 a2 b1 b2 l1 c1 l2 c2 N1 N2 z):FS:=⟨false,71,[(0,.slice b1 l1 c1),(1,.slice b2 l2 c2),(2,.int .i64 z),(6,.bool false)],[((wA .u32 64 kL2),g0),((wA .u64 80 kL5),g1),(a1,t1),(a2,t2)]⟩
theorem yv0:yvA_R [0] (yvA k_1) .normal (fun z_=>z_=yvB k_1):=rn_ev (yty.enm (prfem :: prfdm :: tabM6) [mMask] 2000004) yvA_h mixed _ none [] [] 1 (fun j M=>by kernel_rfl) A0 rfl
theorem yv1:yvA_R [1,0] (yvB k_1) .normal (fun z_=>z_=yvB k_1):=by
  have⟨hk,hN1,ht,hN2,hl1,hl2,hz⟩:=id k_1
  exact rn_ev (yty.enm (prfem :: prfdm :: tabM6) [mMask] 2000004) yvA_h mixed _ none [some (.bool false),some (.bool false),some (.bool false)] [(5,(decide (2000<(l1:Int)))=false),(7,(decide (2000<(l2:Int)))=false),(7,(decide (500<z))=false)] 3 (fun j M=>by kernel_rfl) (A1 (decide_eq_false (by omega)) (A1 (decide_eq_false (by omega)) (A1 (decide_eq_false (by omega)) A0))) rfl
structure yvC_c (_:yvA_c g0 g1 t1 t2 a1 a2 b1 b2 l1 c1 l2 c2 N1 N2 z) (k1 k2:Nat):Prop where
  hk1:(N1 ++ [77]).length≤k1
  hk2:(N2 ++ [77]).length≤k2
variable {k1 k2:Nat} {k_2:yvC_c k_1 k1 k2}
abbrev yvC (_:yvC_c k_1 k1 k2):FS:=⟨false,71,[(0,.slice b1 l1 c1),(1,.slice b2 l2 c2),(2,.int .i64 z),(7,.slice (some ⟨4,0,none⟩) l1 k1),(8,.slice (some ⟨5,0,none⟩) l2 k2)],[((wA .u32 64 kL2),g0),((wA .u64 80 kL5),g1),(a1,t1),(a2,t2),((wA .u8 k1 (N1 ++ [77])),(5,(0,0))),((wA .u8 k2 (N2 ++ [77])),(5,(0,0)))]⟩
theorem yv3:yvA_R [1,1,0] (yvB k_1) .normal (fun z_=>∃(k1 k2:Nat) (k_2:yvC_c k_1 k1 k2),z_=yvC k_2):=by
  have⟨hk,hN1,ht,hN2,hl1,hl2,hz⟩:=id k_1
  refine rn_reg none (by kernel_rfl) fun j c0 ch0=> ?_
  have hM1:MakesA Tryd.prog 14 [((wA .u32 64 kL2),g0),((wA .u64 80 kL5),g1),(a1,t1),(a2,t2)] [.slice b1 l1 c1] .u8 l1 (N1 ++ [77]) 5 2:=le7_c (hN1 ▸ hk.src) (by rw[← hN1];exact hk.len) (by omega)
  refine rl_call (yty.enm (prfem :: prfdm :: tabM6) [mMask] 2000004) (call_of Tryd.func14 (by kernel_rfl) (by kernel_rfl)) 1 [] [] 1 4 (some 31) hM1 (by kernel_rfl) A0 fun k1 c1_ e1_ hk1=> ?_
  have hM2:MakesA Tryd.prog 14 [((wA .u32 64 kL2),g0),((wA .u64 80 kL5),g1),(a1,t1),(a2,t2),((wA .u8 k1 (N1 ++ [77])),(5,(0,0)))] [.slice b2 l2 c2] .u8 l2 (N2 ++ [77]) 5 2:=le7_c ((hN2 ▸ (ht.app (x:= [_])).2 ▸ (ht.app (x:= [_])).1.src)) (by rw[← hN2];exact ht.len) (by omega)
  refine rl_call (yty.enm (prfem :: prfdm :: tabM6) [mMask] 2000004) (call_of Tryd.func14 (by kernel_rfl) (by kernel_rfl)) 1 [] [] 1 5 (some 33) hM2 (by kernel_rfl) A0 fun k2 c2_ e2_ hk2=> ?_
  exact rl_end (E:=(yty.enm (prfem :: prfdm :: tabM6) [mMask] 2000004)) _ [] [] 2 (fun M=>by kernel_rfl) A0 ⟨k1,k2,⟨by omega,by omega⟩,rfl⟩
abbrev yvD (_:yvC_c k_1 k1 k2):FS:=⟨false,71,[(0,.slice b1 l1 c1),(1,.slice b2 l2 c2),(2,.int .i64 z),(7,.slice (some ⟨4,0,none⟩) l1 k1),(8,.slice (some ⟨5,0,none⟩) l2 k2),(9,.slice none 0 0),(10,.int .i64 2)],[((wA .u32 64 kL2),g0),((wA .u64 80 kL5),g1),(a1,t1),(a2,t2),((wA .u8 k1 (N1 ++ [77])),(5,(0,0))),((wA .u8 k2 (N2 ++ [77])),(5,(0,0)))]⟩
abbrev yvE (_:yvC_c k_1 k1 k2):FS:=⟨false,71,[(0,.slice b1 l1 c1),(1,.slice b2 l2 c2),(2,.int .i64 z),(7,.slice (some ⟨4,0,none⟩) l1 k1),(8,.slice (some ⟨5,0,none⟩) l2 k2),(9,.slice none 0 0),(10,.int .i64 2),(11,.slice none 0 0),(12,.int .i64 2)],[((wA .u32 64 kL2),g0),((wA .u64 80 kL5),g1),(a1,t1),(a2,t2),((wA .u8 k1 (N1 ++ [77])),(5,(0,0))),((wA .u8 k2 (N2 ++ [77])),(5,(0,0)))]⟩
theorem yv4:yvA_R [1,1,1,0] (yvC k_2) .normal (fun z_=>z_=yvD k_2):=by
  have⟨hk,hN1,ht,hN2,hl1,hl2,hz⟩:=id k_1
  have⟨hk1,hk2⟩:=id k_2
  exact rn_ev (yty.enm (prfem :: prfdm :: tabM6) [mMask] 2000004) yvA_h mixed _ none [] [(6,((wA .u32 64 kL2)=wA .u32 64 kL2∧(wA .u64 80 kL5)=wA .u64 80 kL5∧BytesOk [((wA .u32 64 kL2),g0),((wA .u64 80 kL5),g1),(a1,t1),(a2,t2),((wA .u8 k1 (N1 ++ [77])),(5,(0,0))),((wA .u8 k2 (N2 ++ [77])),(5,(0,0)))] (some ⟨4,0,none⟩) l1 k1∧BytesOk [((wA .u32 64 kL2),g0),((wA .u64 80 kL5),g1),(a1,t1),(a2,t2),((wA .u8 k1 (N1 ++ [77])),(5,(0,0))),((wA .u8 k2 (N2 ++ [77])),(5,(0,0)))] (some ⟨5,0,none⟩) l2 k2∧(z:Int)<0))] 5 (fun j M=>by kernel_rfl) (A1 ⟨rfl,rfl,(lentOk (i:=4) (hN1 ▸ hk.bt) (hN1 ▸ hk.len) hk1 rfl),(lentOk (i:=5) (hN2 ▸ ht.bt) (hN2 ▸ ht.len) hk2 rfl),hz⟩ A0) rfl
theorem yv5:yvA_R [1,1,1,1,0] (yvD k_2) .normal (fun z_=>z_=yvE k_2):=by
  have⟨hk,hN1,ht,hN2,hl1,hl2,hz⟩:=id k_1
  exact rn_ev (yty.enm (prfem :: prfdm :: tabM6) [mMask] 2000004) yvA_h mixed _ none [] [(6,((wA .u32 64 kL2)=wA .u32 64 kL2∧(wA .u64 80 kL5)=wA .u64 80 kL5∧BytesOk [((wA .u32 64 kL2),g0),((wA .u64 80 kL5),g1),(a1,t1),(a2,t2),((wA .u8 k1 (N1 ++ [77])),(5,(0,0))),((wA .u8 k2 (N2 ++ [77])),(5,(0,0)))] b1 l1 c1∧BytesOk [((wA .u32 64 kL2),g0),((wA .u64 80 kL5),g1),(a1,t1),(a2,t2),((wA .u8 k1 (N1 ++ [77])),(5,(0,0))),((wA .u8 k2 (N2 ++ [77])),(5,(0,0)))] b2 l2 c2∧(z:Int)<0))] 5 (fun j M=>by kernel_rfl) (A1 ⟨rfl,rfl,(hk.app (x:= [_,_])).1,(ht.app (x:= [_,_])).1,hz⟩ A0) rfl
abbrev yvF (_:yvC_c k_1 k1 k2):FS:=⟨false,71,[(6,.bool true)],[((wA .u32 64 kL2),g0),((wA .u64 80 kL5),g1),(a1,t1),(a2,t2),((wA .u8 k1 (N1 ++ [77])),(5,(0,0))),((wA .u8 k2 (N2 ++ [77])),(5,(0,0)))]⟩
theorem yv6:yvA_R [1,1,1,1,1] (yvE k_2) .ret (fun z_=>z_=yvF k_2):=by
  have⟨hk,hN1,ht,hN2,hl1,hl2,hz⟩:=id k_1
  have⟨hk1,hk2⟩:=id k_2
  have hl1':N1.length=l1:=hN1 ▸ hk.len
  have hl2':N2.length=l2:=hN2 ▸ ht.len
  have hA:BytesOk [(wA .u32 64 kL2,g0),(wA .u64 80 kL5,g1),(a1,t1),(a2,t2),(wA .u8 k1 (N1 ++ [77]),5,(0,0)),(wA .u8 k2 (N2 ++ [77]),5,(0,0))] b1 l1 c1∧bytesOf [(wA .u32 64 kL2,g0),(wA .u64 80 kL5,g1),(a1,t1),(a2,t2),(wA .u8 k1 (N1 ++ [77]),5,(0,0)),(wA .u8 k2 (N2 ++ [77]),5,(0,0))] b1 l1=bytesOf [(wA .u32 64 kL2,g0),(wA .u64 80 kL5,g1),(a1,t1),(a2,t2)] b1 l1:=hk.app (x:= [_,_])
  have hB:BytesOk [(wA .u32 64 kL2,g0),(wA .u64 80 kL5,g1),(a1,t1),(a2,t2),(wA .u8 k1 (N1 ++ [77]),5,(0,0)),(wA .u8 k2 (N2 ++ [77]),5,(0,0))] b2 l2 c2∧bytesOf [(wA .u32 64 kL2,g0),(wA .u64 80 kL5,g1),(a1,t1),(a2,t2),(wA .u8 k1 (N1 ++ [77]),5,(0,0)),(wA .u8 k2 (N2 ++ [77]),5,(0,0))] b2 l2=bytesOf [(wA .u32 64 kL2,g0),(wA .u64 80 kL5,g1),(a1,t1),(a2,t2)] b2 l2:=ht.app (x:= [_,_])
  rw[hN1] at hA
  rw[hN2] at hB
  have hk1':=hk1
  have hk2':=hk2
  simp only[List.length_append,List.length_cons,List.length_nil] at hk1' hk2'
  exact rn_ev (yty.enm (prfem :: prfdm :: tabM6) [mMask] 2000004) yvA_h mixed _ none [none,none,some (.bool true)] [(4,((wA .u8 k1 (N1 ++ [77]))=wA .u8 k1 ((bytesOf [((wA .u32 64 kL2),g0),((wA .u64 80 kL5),g1),(a1,t1),(a2,t2),((wA .u8 k1 (N1 ++ [77])),(5,(0,0))),((wA .u8 k2 (N2 ++ [77])),(5,(0,0)))] b1 l1) ++ [77])∧l1=l1∧BytesOk [((wA .u32 64 kL2),g0),((wA .u64 80 kL5),g1),(a1,t1),(a2,t2),((wA .u8 k1 (N1 ++ [77])),(5,(0,0))),((wA .u8 k2 (N2 ++ [77])),(5,(0,0)))] b1 l1 c1∧l1≤100000000∧l1+1≤k1)),(6,((wA .u8 k2 (N2 ++ [77]))=wA .u8 k2 ((bytesOf [((wA .u32 64 kL2),g0),((wA .u64 80 kL5),g1),(a1,t1),(a2,t2),((wA .u8 k1 (N1 ++ [77])),(5,(0,0))),((wA .u8 k2 (N2 ++ [77])),(5,(0,0)))] b2 l2) ++ [77])∧l2=l2∧BytesOk [((wA .u32 64 kL2),g0),((wA .u64 80 kL5),g1),(a1,t1),(a2,t2),((wA .u8 k1 (N1 ++ [77])),(5,(0,0))),((wA .u8 k2 (N2 ++ [77])),(5,(0,0)))] b2 l2 c2∧l2≤100000000∧l2+1≤k2)),(13,(((bstr #[])).toList == ((bstr #[])).toList)=true),(14,((wA .u32 64 kL2)=wA .u32 64 kL2∧(wA .u64 80 kL5)=wA .u64 80 kL5))] 2 (fun j M=>by kernel_rfl) (A1 ⟨by rw[hA.2],rfl,hA.1,by omega,by omega⟩ (A1 ⟨by rw[hB.2],rfl,hB.1,by omega,by omega⟩ (A1 (beq_self_eq_true _) (A1 ⟨rfl,rfl⟩ A0)))) rfl
theorem yvu':yvA_R [] (yvA k_1) .ret (fun z_=>∃(k12 k22:Nat) (k_2:yvC_c k_1 k12 k22),z_=yvF k_2):=by
  refine rn_seq (w:= []) (by kernel_rfl) yv0 ?_
  rintro _ rfl
  refine rn_seq (w:= [1]) (by kernel_rfl) yv1 ?_
  rintro _ rfl
  refine rn_seq (w:= [1,1]) (by kernel_rfl) yv3 ?_
  rintro _ ⟨k12,k22,k_2,rfl⟩
  refine rn_seq (w:= [1,1,1]) (by kernel_rfl) yv4 ?_
  rintro _ rfl
  refine rn_seq (w:= [1,1,1,1]) (by kernel_rfl) yv5 ?_
  rintro _ rfl
  exact(yv6).mono fun _ e_=>⟨k12,k22,k_2,e_⟩
abbrev yvA_s (g0 g1 t1 t2:Tq) (a1 a2:Array Value) (b1 b2:Option Addr) (l1 c1 l2 c2:Nat) (N1 N2:List Int) (z:Int) (j:Nat→Value):List Value:=([.slice b1 l1 c1,.slice b2 l2 c2,.int .i64 z] ++ (JU 68))
abbrev yvA_m (g0 g1 t1 t2:Tq) (a1 a2:Array Value) (b1 b2:Option Addr) (l1 c1 l2 c2:Nat) (N1 N2:List Int) (z:Int):List Mb:= [((wA .u32 64 kL2),g0),((wA .u64 80 kL5),g1),(a1,t1),(a2,t2)]
abbrev yvF_s (g0 g1 t1 t2:Tq) (a1 a2:Array Value) (b1 b2:Option Addr) (l1 c1 l2 c2:Nat) (N1 N2:List Int) (z:Int) (k1 k2:Nat) (j:Nat→Value):List Value:=(J j 0 6 ++ ([.bool true] ++ (J j 7 64)))
abbrev yvF_m (g0 g1 t1 t2:Tq) (a1 a2:Array Value) (b1 b2:Option Addr) (l1 c1 l2 c2:Nat) (N1 N2:List Int) (z:Int) (k1 k2:Nat):List Mb:= [((wA .u32 64 kL2),g0),((wA .u64 80 kL5),g1),(a1,t1),(a2,t2),((wA .u8 k1 (N1 ++ [77])),(5,(0,0))),((wA .u8 k2 (N2 ++ [77])),(5,(0,0)))]
theorem yvu (g0 g1 t1 t2:Tq) (a1 a2:Array Value) (b1 b2:Option Addr) (l1 c1 l2 c2:Nat) (N1 N2:List Int) (z:Int) (j:Nat→Value) (hk:BytesOk [(wA .u32 64 kL2,g0),(wA .u64 80 kL5,g1),(a1,t1),(a2,t2)] b1 l1 c1) (hN1:bytesOf [(wA .u32 64 kL2,g0),(wA .u64 80 kL5,g1),(a1,t1),(a2,t2)] b1 l1=N1) (ht:BytesOk [(wA .u32 64 kL2,g0),(wA .u64 80 kL5,g1),(a1,t1),(a2,t2)] b2 l2 c2) (hN2:bytesOf [(wA .u32 64 kL2,g0),(wA .u64 80 kL5,g1),(a1,t1),(a2,t2)] b2 l2=N2) (hl1:l1≤2000) (hl2:l2≤2000) (hz:z<0)  :Runs Tryd.prog (cAt [] (bdy Tryd.f5)) ⟨yvA_s g0 g1 t1 t2 a1 a2 b1 b2 l1 c1 l2 c2 N1 N2 z j,yvA_m g0 g1 t1 t2 a1 a2 b1 b2 l1 c1 l2 c2 N1 N2 z,c0,ch0⟩ (fun e s=>e= .ret∧∃(k12:Nat) (k22:Nat),∃j c ch,((N1 ++ [77]).length≤k12)∧((N2 ++ [77]).length≤k22)∧s=⟨yvF_s g0 g1 t1 t2 a1 a2 b1 b2 l1 c1 l2 c2 N1 N2 z k12 k22 j,yvF_m g0 g1 t1 t2 a1 a2 b1 b2 l1 c1 l2 c2 N1 N2 z k12 k22,c,ch⟩) 2000004:=by
  refine(Rn.old (yvu' (k_1:=(⟨hk,hN1,ht,hN2,hl1,hl2,hz⟩:yvA_c g0 g1 t1 t2 a1 a2 b1 b2 l1 c1 l2 c2 N1 N2 z))) j (by kernel_rfl)).mono ?_
  rintro e s ⟨rfl,_,⟨k12,k22,k_2,rfl⟩,j,c,ch,rfl⟩
  have⟨x_hk1,x_hk2⟩:=k_2
  exact⟨rfl,k12,k22,j,c,ch,x_hk1,x_hk2,by kernel_rfl⟩
def ywA_h (i:Nat):Hn:=⟨0,[],[],[],[]⟩
abbrev ywA_R (w:List Nat) (S:FS) (e:Exit) (K:FS→Prop):Prop:=Rn Tryd.prog (cAt w (bdy Tryd.f5)) S e K 2000004
structure ywA_c (g0 g1 t1 t2:Tq) (a1 a2:Array Value) (b1 b2:Option Addr) (l1 c1 l2 c2:Nat) (N1 N2:List Int) (z:Int):Prop where
  hk:BytesOk [(wA .u32 64 kL2,g0),(wA .u64 80 kL5,g1),(a1,t1),(a2,t2)] b1 l1 c1
  hN1:bytesOf [(wA .u32 64 kL2,g0),(wA .u64 80 kL5,g1),(a1,t1),(a2,t2)] b1 l1=N1
  ht:BytesOk [(wA .u32 64 kL2,g0),(wA .u64 80 kL5,g1),(a1,t1),(a2,t2)] b2 l2 c2
  hN2:bytesOf [(wA .u32 64 kL2,g0),(wA .u64 80 kL5,g1),(a1,t1),(a2,t2)] b2 l2=N2
  hl1:l1≤2000
  hl2:l2≤2000
  hz:8160<z
variable {k_3:ywA_c g0 g1 t1 t2 a1 a2 b1 b2 l1 c1 l2 c2 N1 N2 z}
abbrev ywA (_:ywA_c g0 g1 t1 t2 a1 a2 b1 b2 l1 c1 l2 c2 N1 N2 z):FS:=⟨true,71,[(0,.slice b1 l1 c1),(1,.slice b2 l2 c2),(2,.int .i64 z)],[((wA .u32 64 kL2),g0),((wA .u64 80 kL5),g1),(a1,t1),(a2,t2)]⟩
abbrev ywB (_:ywA_c g0 g1 t1 t2 a1 a2 b1 b2 l1 c1 l2 c2 N1 N2 z):FS:=⟨false,71,[(0,.slice b1 l1 c1),(1,.slice b2 l2 c2),(2,.int .i64 z),(6,.bool false)],[((wA .u32 64 kL2),g0),((wA .u64 80 kL5),g1),(a1,t1),(a2,t2)]⟩
theorem yw0:ywA_R [0] (ywA k_3) .normal (fun z_=>z_=ywB k_3):=rn_ev (yty.enm (prfep :: prfdp :: tabM6) [mMask] 2000004) ywA_h mixed _ none [] [] 1 (fun j M=>by kernel_rfl) A0 rfl
theorem yw1:ywA_R [1,0] (ywB k_3) .normal (fun z_=>z_=ywB k_3):=by
  have⟨hk,hN1,ht,hN2,hl1,hl2,hz⟩:=id k_3
  exact rn_ev (yty.enm (prfep :: prfdp :: tabM6) [mMask] 2000004) ywA_h mixed _ none [some (.bool false),some (.bool false),some (.bool true),some (.bool false)] [(5,(decide (2000<(l1:Int)))=false),(7,(decide (2000<(l2:Int)))=false),(7,(decide (500<z))=true),(5,(decide (z≤8160))=false)] 2 (fun j M=>by kernel_rfl) (A1 (decide_eq_false (by omega)) (A1 (decide_eq_false (by omega)) (A1 (decide_eq_true (by omega)) (A1 (decide_eq_false (by omega)) A0)))) rfl
structure ywC_c (_:ywA_c g0 g1 t1 t2 a1 a2 b1 b2 l1 c1 l2 c2 N1 N2 z) (k1 k2:Nat):Prop where
  hk1:(N1 ++ [77]).length≤k1
  hk2:(N2 ++ [77]).length≤k2
variable {k_4:ywC_c k_3 k1 k2}
abbrev ywC (_:ywC_c k_3 k1 k2):FS:=⟨false,71,[(0,.slice b1 l1 c1),(1,.slice b2 l2 c2),(2,.int .i64 z),(7,.slice (some ⟨4,0,none⟩) l1 k1),(8,.slice (some ⟨5,0,none⟩) l2 k2)],[((wA .u32 64 kL2),g0),((wA .u64 80 kL5),g1),(a1,t1),(a2,t2),((wA .u8 k1 (N1 ++ [77])),(5,(0,0))),((wA .u8 k2 (N2 ++ [77])),(5,(0,0)))]⟩
theorem yw3:ywA_R [1,1,0] (ywB k_3) .normal (fun z_=>∃(k1 k2:Nat) (k_4:ywC_c k_3 k1 k2),z_=ywC k_4):=by
  have⟨hk,hN1,ht,hN2,hl1,hl2,hz⟩:=id k_3
  refine rn_reg none (by kernel_rfl) fun j c0 ch0=> ?_
  have hM1:MakesA Tryd.prog 14 [((wA .u32 64 kL2),g0),((wA .u64 80 kL5),g1),(a1,t1),(a2,t2)] [.slice b1 l1 c1] .u8 l1 (N1 ++ [77]) 5 2:=le7_c (hN1 ▸ hk.src) (by rw[← hN1];exact hk.len) (by omega)
  refine rl_call (yty.enm (prfep :: prfdp :: tabM6) [mMask] 2000004) (call_of Tryd.func14 (by kernel_rfl) (by kernel_rfl)) 1 [] [] 1 4 (some 31) hM1 (by kernel_rfl) A0 fun k1 c1_ e1_ hk1=> ?_
  have hM2:MakesA Tryd.prog 14 [((wA .u32 64 kL2),g0),((wA .u64 80 kL5),g1),(a1,t1),(a2,t2),((wA .u8 k1 (N1 ++ [77])),(5,(0,0)))] [.slice b2 l2 c2] .u8 l2 (N2 ++ [77]) 5 2:=le7_c ((hN2 ▸ (ht.app (x:= [_])).2 ▸ (ht.app (x:= [_])).1.src)) (by rw[← hN2];exact ht.len) (by omega)
  refine rl_call (yty.enm (prfep :: prfdp :: tabM6) [mMask] 2000004) (call_of Tryd.func14 (by kernel_rfl) (by kernel_rfl)) 1 [] [] 1 5 (some 33) hM2 (by kernel_rfl) A0 fun k2 c2_ e2_ hk2=> ?_
  exact rl_end (E:=(yty.enm (prfep :: prfdp :: tabM6) [mMask] 2000004)) _ [] [] 2 (fun M=>by kernel_rfl) A0 ⟨k1,k2,⟨by omega,by omega⟩,rfl⟩
abbrev ywD (_:ywC_c k_3 k1 k2):FS:=⟨false,71,[(0,.slice b1 l1 c1),(1,.slice b2 l2 c2),(2,.int .i64 z),(7,.slice (some ⟨4,0,none⟩) l1 k1),(8,.slice (some ⟨5,0,none⟩) l2 k2),(9,.slice none 0 0),(10,.int .i64 3)],[((wA .u32 64 kL2),g0),((wA .u64 80 kL5),g1),(a1,t1),(a2,t2),((wA .u8 k1 (N1 ++ [77])),(5,(0,0))),((wA .u8 k2 (N2 ++ [77])),(5,(0,0)))]⟩
abbrev ywE (_:ywC_c k_3 k1 k2):FS:=⟨false,71,[(0,.slice b1 l1 c1),(1,.slice b2 l2 c2),(2,.int .i64 z),(7,.slice (some ⟨4,0,none⟩) l1 k1),(8,.slice (some ⟨5,0,none⟩) l2 k2),(9,.slice none 0 0),(10,.int .i64 3),(11,.slice none 0 0),(12,.int .i64 3)],[((wA .u32 64 kL2),g0),((wA .u64 80 kL5),g1),(a1,t1),(a2,t2),((wA .u8 k1 (N1 ++ [77])),(5,(0,0))),((wA .u8 k2 (N2 ++ [77])),(5,(0,0)))]⟩
theorem yw4:ywA_R [1,1,1,0] (ywC k_4) .normal (fun z_=>z_=ywD k_4):=by
  have⟨hk,hN1,ht,hN2,hl1,hl2,hz⟩:=id k_3
  have⟨hk1,hk2⟩:=id k_4
  exact rn_ev (yty.enm (prfep :: prfdp :: tabM6) [mMask] 2000004) ywA_h mixed _ none [] [(6,((wA .u32 64 kL2)=wA .u32 64 kL2∧(wA .u64 80 kL5)=wA .u64 80 kL5∧BytesOk [((wA .u32 64 kL2),g0),((wA .u64 80 kL5),g1),(a1,t1),(a2,t2),((wA .u8 k1 (N1 ++ [77])),(5,(0,0))),((wA .u8 k2 (N2 ++ [77])),(5,(0,0)))] (some ⟨4,0,none⟩) l1 k1∧BytesOk [((wA .u32 64 kL2),g0),((wA .u64 80 kL5),g1),(a1,t1),(a2,t2),((wA .u8 k1 (N1 ++ [77])),(5,(0,0))),((wA .u8 k2 (N2 ++ [77])),(5,(0,0)))] (some ⟨5,0,none⟩) l2 k2∧8160<(z:Int)))] 5 (fun j M=>by kernel_rfl) (A1 ⟨rfl,rfl,(lentOk (i:=4) (hN1 ▸ hk.bt) (hN1 ▸ hk.len) hk1 rfl),(lentOk (i:=5) (hN2 ▸ ht.bt) (hN2 ▸ ht.len) hk2 rfl),hz⟩ A0) rfl
theorem yw5:ywA_R [1,1,1,1,0] (ywD k_4) .normal (fun z_=>z_=ywE k_4):=by
  have⟨hk,hN1,ht,hN2,hl1,hl2,hz⟩:=id k_3
  exact rn_ev (yty.enm (prfep :: prfdp :: tabM6) [mMask] 2000004) ywA_h mixed _ none [] [(6,((wA .u32 64 kL2)=wA .u32 64 kL2∧(wA .u64 80 kL5)=wA .u64 80 kL5∧BytesOk [((wA .u32 64 kL2),g0),((wA .u64 80 kL5),g1),(a1,t1),(a2,t2),((wA .u8 k1 (N1 ++ [77])),(5,(0,0))),((wA .u8 k2 (N2 ++ [77])),(5,(0,0)))] b1 l1 c1∧BytesOk [((wA .u32 64 kL2),g0),((wA .u64 80 kL5),g1),(a1,t1),(a2,t2),((wA .u8 k1 (N1 ++ [77])),(5,(0,0))),((wA .u8 k2 (N2 ++ [77])),(5,(0,0)))] b2 l2 c2∧8160<(z:Int)))] 5 (fun j M=>by kernel_rfl) (A1 ⟨rfl,rfl,(hk.app (x:= [_,_])).1,(ht.app (x:= [_,_])).1,hz⟩ A0) rfl
abbrev ywF (_:ywC_c k_3 k1 k2):FS:=⟨false,71,[(6,.bool true)],[((wA .u32 64 kL2),g0),((wA .u64 80 kL5),g1),(a1,t1),(a2,t2),((wA .u8 k1 (N1 ++ [77])),(5,(0,0))),((wA .u8 k2 (N2 ++ [77])),(5,(0,0)))]⟩
theorem yw6:ywA_R [1,1,1,1,1] (ywE k_4) .ret (fun z_=>z_=ywF k_4):=by
  have⟨hk,hN1,ht,hN2,hl1,hl2,hz⟩:=id k_3
  have⟨hk1,hk2⟩:=id k_4
  have hl1':N1.length=l1:=hN1 ▸ hk.len
  have hl2':N2.length=l2:=hN2 ▸ ht.len
  have hA:BytesOk [(wA .u32 64 kL2,g0),(wA .u64 80 kL5,g1),(a1,t1),(a2,t2),(wA .u8 k1 (N1 ++ [77]),5,(0,0)),(wA .u8 k2 (N2 ++ [77]),5,(0,0))] b1 l1 c1∧bytesOf [(wA .u32 64 kL2,g0),(wA .u64 80 kL5,g1),(a1,t1),(a2,t2),(wA .u8 k1 (N1 ++ [77]),5,(0,0)),(wA .u8 k2 (N2 ++ [77]),5,(0,0))] b1 l1=bytesOf [(wA .u32 64 kL2,g0),(wA .u64 80 kL5,g1),(a1,t1),(a2,t2)] b1 l1:=hk.app (x:= [_,_])
  have hB:BytesOk [(wA .u32 64 kL2,g0),(wA .u64 80 kL5,g1),(a1,t1),(a2,t2),(wA .u8 k1 (N1 ++ [77]),5,(0,0)),(wA .u8 k2 (N2 ++ [77]),5,(0,0))] b2 l2 c2∧bytesOf [(wA .u32 64 kL2,g0),(wA .u64 80 kL5,g1),(a1,t1),(a2,t2),(wA .u8 k1 (N1 ++ [77]),5,(0,0)),(wA .u8 k2 (N2 ++ [77]),5,(0,0))] b2 l2=bytesOf [(wA .u32 64 kL2,g0),(wA .u64 80 kL5,g1),(a1,t1),(a2,t2)] b2 l2:=ht.app (x:= [_,_])
  rw[hN1] at hA
  rw[hN2] at hB
  have hk1':=hk1
  have hk2':=hk2
  simp only[List.length_append,List.length_cons,List.length_nil] at hk1' hk2'
  exact rn_ev (yty.enm (prfep :: prfdp :: tabM6) [mMask] 2000004) ywA_h mixed _ none [none,none,some (.bool true)] [(4,((wA .u8 k1 (N1 ++ [77]))=wA .u8 k1 ((bytesOf [((wA .u32 64 kL2),g0),((wA .u64 80 kL5),g1),(a1,t1),(a2,t2),((wA .u8 k1 (N1 ++ [77])),(5,(0,0))),((wA .u8 k2 (N2 ++ [77])),(5,(0,0)))] b1 l1) ++ [77])∧l1=l1∧BytesOk [((wA .u32 64 kL2),g0),((wA .u64 80 kL5),g1),(a1,t1),(a2,t2),((wA .u8 k1 (N1 ++ [77])),(5,(0,0))),((wA .u8 k2 (N2 ++ [77])),(5,(0,0)))] b1 l1 c1∧l1≤100000000∧l1+1≤k1)),(6,((wA .u8 k2 (N2 ++ [77]))=wA .u8 k2 ((bytesOf [((wA .u32 64 kL2),g0),((wA .u64 80 kL5),g1),(a1,t1),(a2,t2),((wA .u8 k1 (N1 ++ [77])),(5,(0,0))),((wA .u8 k2 (N2 ++ [77])),(5,(0,0)))] b2 l2) ++ [77])∧l2=l2∧BytesOk [((wA .u32 64 kL2),g0),((wA .u64 80 kL5),g1),(a1,t1),(a2,t2),((wA .u8 k1 (N1 ++ [77])),(5,(0,0))),((wA .u8 k2 (N2 ++ [77])),(5,(0,0)))] b2 l2 c2∧l2≤100000000∧l2+1≤k2)),(13,(((bstr #[])).toList == ((bstr #[])).toList)=true),(14,((wA .u32 64 kL2)=wA .u32 64 kL2∧(wA .u64 80 kL5)=wA .u64 80 kL5))] 2 (fun j M=>by kernel_rfl) (A1 ⟨by rw[hA.2],rfl,hA.1,by omega,by omega⟩ (A1 ⟨by rw[hB.2],rfl,hB.1,by omega,by omega⟩ (A1 (beq_self_eq_true _) (A1 ⟨rfl,rfl⟩ A0)))) rfl
theorem ywu':ywA_R [] (ywA k_3) .ret (fun z_=>∃(k12 k22:Nat) (k_4:ywC_c k_3 k12 k22),z_=ywF k_4):=by
  refine rn_seq (w:= []) (by kernel_rfl) yw0 ?_
  rintro _ rfl
  refine rn_seq (w:= [1]) (by kernel_rfl) yw1 ?_
  rintro _ rfl
  refine rn_seq (w:= [1,1]) (by kernel_rfl) yw3 ?_
  rintro _ ⟨k12,k22,k_4,rfl⟩
  refine rn_seq (w:= [1,1,1]) (by kernel_rfl) yw4 ?_
  rintro _ rfl
  refine rn_seq (w:= [1,1,1,1]) (by kernel_rfl) yw5 ?_
  rintro _ rfl
  exact(yw6).mono fun _ e_=>⟨k12,k22,k_4,e_⟩
abbrev ywA_s (g0 g1 t1 t2:Tq) (a1 a2:Array Value) (b1 b2:Option Addr) (l1 c1 l2 c2:Nat) (N1 N2:List Int) (z:Int) (j:Nat→Value):List Value:=([.slice b1 l1 c1,.slice b2 l2 c2,.int .i64 z] ++ (JU 68))
abbrev ywA_m (g0 g1 t1 t2:Tq) (a1 a2:Array Value) (b1 b2:Option Addr) (l1 c1 l2 c2:Nat) (N1 N2:List Int) (z:Int):List Mb:= [((wA .u32 64 kL2),g0),((wA .u64 80 kL5),g1),(a1,t1),(a2,t2)]
abbrev ywF_s (g0 g1 t1 t2:Tq) (a1 a2:Array Value) (b1 b2:Option Addr) (l1 c1 l2 c2:Nat) (N1 N2:List Int) (z:Int) (k1 k2:Nat) (j:Nat→Value):List Value:=(J j 0 6 ++ ([.bool true] ++ (J j 7 64)))
abbrev ywF_m (g0 g1 t1 t2:Tq) (a1 a2:Array Value) (b1 b2:Option Addr) (l1 c1 l2 c2:Nat) (N1 N2:List Int) (z:Int) (k1 k2:Nat):List Mb:= [((wA .u32 64 kL2),g0),((wA .u64 80 kL5),g1),(a1,t1),(a2,t2),((wA .u8 k1 (N1 ++ [77])),(5,(0,0))),((wA .u8 k2 (N2 ++ [77])),(5,(0,0)))]
theorem ywu (g0 g1 t1 t2:Tq) (a1 a2:Array Value) (b1 b2:Option Addr) (l1 c1 l2 c2:Nat) (N1 N2:List Int) (z:Int) (j:Nat→Value) (hk:BytesOk [(wA .u32 64 kL2,g0),(wA .u64 80 kL5,g1),(a1,t1),(a2,t2)] b1 l1 c1) (hN1:bytesOf [(wA .u32 64 kL2,g0),(wA .u64 80 kL5,g1),(a1,t1),(a2,t2)] b1 l1=N1) (ht:BytesOk [(wA .u32 64 kL2,g0),(wA .u64 80 kL5,g1),(a1,t1),(a2,t2)] b2 l2 c2) (hN2:bytesOf [(wA .u32 64 kL2,g0),(wA .u64 80 kL5,g1),(a1,t1),(a2,t2)] b2 l2=N2) (hl1:l1≤2000) (hl2:l2≤2000) (hz:8160<z)  :Runs Tryd.prog (cAt [] (bdy Tryd.f5)) ⟨ywA_s g0 g1 t1 t2 a1 a2 b1 b2 l1 c1 l2 c2 N1 N2 z j,ywA_m g0 g1 t1 t2 a1 a2 b1 b2 l1 c1 l2 c2 N1 N2 z,c0,ch0⟩ (fun e s=>e= .ret∧∃(k12:Nat) (k22:Nat),∃j c ch,((N1 ++ [77]).length≤k12)∧((N2 ++ [77]).length≤k22)∧s=⟨ywF_s g0 g1 t1 t2 a1 a2 b1 b2 l1 c1 l2 c2 N1 N2 z k12 k22 j,ywF_m g0 g1 t1 t2 a1 a2 b1 b2 l1 c1 l2 c2 N1 N2 z k12 k22,c,ch⟩) 2000004:=by
  refine(Rn.old (ywu' (k_3:=(⟨hk,hN1,ht,hN2,hl1,hl2,hz⟩:ywA_c g0 g1 t1 t2 a1 a2 b1 b2 l1 c1 l2 c2 N1 N2 z))) j (by kernel_rfl)).mono ?_
  rintro e s ⟨rfl,_,⟨k12,k22,k_4,rfl⟩,j,c,ch,rfl⟩
  have⟨x_hk1,x_hk2⟩:=k_4
  exact⟨rfl,k12,k22,j,c,ch,x_hk1,x_hk2,by kernel_rfl⟩
def yzA_h (i:Nat):Hn:=⟨0,[],[],[],[]⟩
abbrev yzA_R (w:List Nat) (S:FS) (e:Exit) (K:FS→Prop):Prop:=Rn Tryd.prog (cAt w (bdy Tryd.f5)) S e K 2000004
structure yzA_c (g0 g1 t1 t2:Tq) (a1 a2:Array Value) (b1 b2:Option Addr) (l1 c1 l2 c2:Nat) (N1 N2:List Int):Prop where
  hk:BytesOk [(wA .u32 64 kL2,g0),(wA .u64 80 kL5,g1),(a1,t1),(a2,t2)] b1 l1 c1
  hN1:bytesOf [(wA .u32 64 kL2,g0),(wA .u64 80 kL5,g1),(a1,t1),(a2,t2)] b1 l1=N1
  ht:BytesOk [(wA .u32 64 kL2,g0),(wA .u64 80 kL5,g1),(a1,t1),(a2,t2)] b2 l2 c2
  hN2:bytesOf [(wA .u32 64 kL2,g0),(wA .u64 80 kL5,g1),(a1,t1),(a2,t2)] b2 l2=N2
  hl1:l1≤2000
  hl2:l2≤2000
variable {k_5:yzA_c g0 g1 t1 t2 a1 a2 b1 b2 l1 c1 l2 c2 N1 N2}
abbrev yzA (_:yzA_c g0 g1 t1 t2 a1 a2 b1 b2 l1 c1 l2 c2 N1 N2):FS:=⟨true,71,[(0,.slice b1 l1 c1),(1,.slice b2 l2 c2),(2,.int .i64 0)],[((wA .u32 64 kL2),g0),((wA .u64 80 kL5),g1),(a1,t1),(a2,t2)]⟩
abbrev yzB (_:yzA_c g0 g1 t1 t2 a1 a2 b1 b2 l1 c1 l2 c2 N1 N2):FS:=⟨false,71,[(0,.slice b1 l1 c1),(1,.slice b2 l2 c2),(2,.int .i64 0),(6,.bool false)],[((wA .u32 64 kL2),g0),((wA .u64 80 kL5),g1),(a1,t1),(a2,t2)]⟩
theorem yz0:yzA_R [0] (yzA k_5) .normal (fun z_=>z_=yzB k_5):=rn_ev (yty.enm (prfd0 :: tabM6) [mMask] 2000004) yzA_h mixed _ none [] [] 1 (fun j M=>by kernel_rfl) A0 rfl
theorem yz1:yzA_R [1,0] (yzB k_5) .normal (fun z_=>z_=yzB k_5):=by
  have⟨hk,hN1,ht,hN2,hl1,hl2⟩:=id k_5
  exact rn_ev (yty.enm (prfd0 :: tabM6) [mMask] 2000004) yzA_h mixed _ none [some (.bool false),some (.bool false)] [(5,(decide (2000<(l1:Int)))=false),(7,(decide (2000<(l2:Int)))=false)] 7 (fun j M=>by kernel_rfl) (A1 (decide_eq_false (by omega)) (A1 (decide_eq_false (by omega)) A0)) rfl
structure yzC_c (_:yzA_c g0 g1 t1 t2 a1 a2 b1 b2 l1 c1 l2 c2 N1 N2) (k1 k2:Nat):Prop where
  hk1:(N1 ++ [77]).length≤k1
  hk2:(N2 ++ [77]).length≤k2
variable {k_6:yzC_c k_5 k1 k2}
abbrev yzC (_:yzC_c k_5 k1 k2):FS:=⟨false,71,[(0,.slice b1 l1 c1),(1,.slice b2 l2 c2),(2,.int .i64 0),(7,.slice (some ⟨4,0,none⟩) l1 k1),(8,.slice (some ⟨5,0,none⟩) l2 k2)],[((wA .u32 64 kL2),g0),((wA .u64 80 kL5),g1),(a1,t1),(a2,t2),((wA .u8 k1 (N1 ++ [77])),(5,(0,0))),((wA .u8 k2 (N2 ++ [77])),(5,(0,0)))]⟩
theorem yz3:yzA_R [1,1,0] (yzB k_5) .normal (fun z_=>∃(k1 k2:Nat) (k_6:yzC_c k_5 k1 k2),z_=yzC k_6):=by
  have⟨hk,hN1,ht,hN2,hl1,hl2⟩:=id k_5
  refine rn_reg none (by kernel_rfl) fun j c0 ch0=> ?_
  have hM1:MakesA Tryd.prog 14 [((wA .u32 64 kL2),g0),((wA .u64 80 kL5),g1),(a1,t1),(a2,t2)] [.slice b1 l1 c1] .u8 l1 (N1 ++ [77]) 5 2:=le7_c (hN1 ▸ hk.src) (by rw[← hN1];exact hk.len) (by omega)
  refine rl_call (yty.enm (prfd0 :: tabM6) [mMask] 2000004) (call_of Tryd.func14 (by kernel_rfl) (by kernel_rfl)) 1 [] [] 1 4 (some 31) hM1 (by kernel_rfl) A0 fun k1 c1_ e1_ hk1=> ?_
  have hM2:MakesA Tryd.prog 14 [((wA .u32 64 kL2),g0),((wA .u64 80 kL5),g1),(a1,t1),(a2,t2),((wA .u8 k1 (N1 ++ [77])),(5,(0,0)))] [.slice b2 l2 c2] .u8 l2 (N2 ++ [77]) 5 2:=le7_c ((hN2 ▸ (ht.app (x:= [_])).2 ▸ (ht.app (x:= [_])).1.src)) (by rw[← hN2];exact ht.len) (by omega)
  refine rl_call (yty.enm (prfd0 :: tabM6) [mMask] 2000004) (call_of Tryd.func14 (by kernel_rfl) (by kernel_rfl)) 1 [] [] 1 5 (some 33) hM2 (by kernel_rfl) A0 fun k2 c2_ e2_ hk2=> ?_
  exact rl_end (E:=(yty.enm (prfd0 :: tabM6) [mMask] 2000004)) _ [] [] 2 (fun M=>by kernel_rfl) A0 ⟨k1,k2,⟨by omega,by omega⟩,rfl⟩
structure yzD_c (_:yzC_c k_5 k1 k2) (k3:Nat):Prop where
  hk3:0≤k3
variable {k3:Nat} {k_7:yzD_c k_6 k3}
abbrev yzD (_:yzD_c k_6 k3):FS:=⟨false,71,[(0,.slice b1 l1 c1),(1,.slice b2 l2 c2),(2,.int .i64 0),(7,.slice (some ⟨4,0,none⟩) l1 k1),(8,.slice (some ⟨5,0,none⟩) l2 k2),(9,.slice (some ⟨6,0,none⟩) 0 k3),(10,.int .i64 0)],[((wA .u32 64 kL2),g0),((wA .u64 80 kL5),g1),(a1,t1),(a2,t2),((wA .u8 k1 (N1 ++ [77])),(5,(0,0))),((wA .u8 k2 (N2 ++ [77])),(5,(0,0))),((wA .u8 k3 (okN (wA .u8 64 (key2 N1)) N2 0)),(5,(0,0)))]⟩
abbrev yzC_s (g0 g1 t1 t2:Tq) (a1 a2:Array Value) (b1 b2:Option Addr) (l1 c1 l2 c2:Nat) (N1 N2:List Int) (k1 k2:Nat) (j:Nat→Value):List Value:=([.slice b1 l1 c1,.slice b2 l2 c2,.int .i64 0] ++ (J j 3 4 ++ ([.slice (some ⟨4,0,none⟩) l1 k1,.slice (some ⟨5,0,none⟩) l2 k2] ++ (J j 9 62))))
abbrev yzC_m (g0 g1 t1 t2:Tq) (a1 a2:Array Value) (b1 b2:Option Addr) (l1 c1 l2 c2:Nat) (N1 N2:List Int) (k1 k2:Nat):List Mb:= [((wA .u32 64 kL2),g0),((wA .u64 80 kL5),g1),(a1,t1),(a2,t2),((wA .u8 k1 (N1 ++ [77])),(5,(0,0))),((wA .u8 k2 (N2 ++ [77])),(5,(0,0)))]
abbrev yzD_s (g0 g1 t1 t2:Tq) (a1 a2:Array Value) (b1 b2:Option Addr) (l1 c1 l2 c2:Nat) (N1 N2:List Int) (k1 k2:Nat) (k3:Nat) (j:Nat→Value):List Value:=([.slice b1 l1 c1,.slice b2 l2 c2,.int .i64 0] ++ (J j 3 4 ++ ([.slice (some ⟨4,0,none⟩) l1 k1,.slice (some ⟨5,0,none⟩) l2 k2,.slice (some ⟨6,0,none⟩) 0 k3,.int .i64 0] ++ (J j 11 60))))
abbrev yzD_m (g0 g1 t1 t2:Tq) (a1 a2:Array Value) (b1 b2:Option Addr) (l1 c1 l2 c2:Nat) (N1 N2:List Int) (k1 k2:Nat) (k3:Nat):List Mb:= [((wA .u32 64 kL2),g0),((wA .u64 80 kL5),g1),(a1,t1),(a2,t2),((wA .u8 k1 (N1 ++ [77])),(5,(0,0))),((wA .u8 k2 (N2 ++ [77])),(5,(0,0))),((wA .u8 k3 (okN (wA .u8 64 (key2 N1)) N2 0)),(5,(0,0)))]
def yz4_op_m0 (g0 g1 t1 t2:Tq) (a1 a2:Array Value) (b1 b2:Option Addr) (l1 c1 l2 c2:Nat) (N1 N2:List Int) (k1 k2:Nat) (j:Nat→Value):List Value:=([.slice b1 l1 c1,.slice b2 l2 c2,.int .i64 0] ++ (J j 3 4 ++ ([.slice (some ⟨4,0,none⟩) l1 k1,.slice (some ⟨5,0,none⟩) l2 k2] ++ (J j 9 26 ++ ([.slice (some ⟨4,0,none⟩) l1 k1,.slice (some ⟨5,0,none⟩) l2 k2,.int .i64 0] ++ (J j 38 33))))))
theorem yz4_op_0 (g0 g1 t1 t2:Tq) (a1 a2:Array Value) (b1 b2:Option Addr) (l1 c1 l2 c2:Nat) (N1 N2:List Int) (k1 k2:Nat) (j:Nat→Value):evL (yty.enm (prfd0 :: tabM6) [mMask] 2000004) (oT (cAt [1,1,1,0] (bdy Tryd.f5))) ((oT (cAt [1,1,1,0] (bdy Tryd.f5))).toList.take 3) ⟨yzC_s g0 g1 t1 t2 a1 a2 b1 b2 l1 c1 l2 c2 N1 N2 k1 k2 j,yzC_m g0 g1 t1 t2 a1 a2 b1 b2 l1 c1 l2 c2 N1 N2 k1 k2,True,[]⟩=some ⟨yz4_op_m0 g0 g1 t1 t2 a1 a2 b1 b2 l1 c1 l2 c2 N1 N2 k1 k2 j,[((wA .u32 64 kL2),g0),((wA .u64 80 kL5),g1),(a1,t1),(a2,t2),((wA .u8 k1 (N1 ++ [77])),(5,(0,0))),((wA .u8 k2 (N2 ++ [77])),(5,(0,0)))],(((True∧True)∧True)∧True),[]⟩:=by kernel_rfl
def yz4_op_b (g0 g1 t1 t2:Tq) (a1 a2:Array Value) (b1 b2:Option Addr) (l1 c1 l2 c2:Nat) (N1 N2:List Int) (k1 k2:Nat) (j:Nat→Value) (bq1 kq1:Nat):List Value:=([.slice b1 l1 c1,.slice b2 l2 c2,.int .i64 0] ++ (J j 3 4 ++ ([.slice (some ⟨4,0,none⟩) l1 k1,.slice (some ⟨5,0,none⟩) l2 k2,.slice (some ⟨6,0,none⟩) 0 kq1,.int .i64 0] ++ (J j 11 23 ++ ([.tuple #[.slice (some ⟨bq1,0,none⟩) 0 kq1,.int .i64 0],.slice (some ⟨4,0,none⟩) l1 k1,.slice (some ⟨5,0,none⟩) l2 k2,.int .i64 0,.tuple #[.slice (some ⟨bq1,0,none⟩) 0 kq1,.int .i64 0],.slice (some ⟨6,0,none⟩) 0 kq1,.int .i64 0] ++ (J j 41 30))))))
theorem yz4_op_e (g0 g1 t1 t2:Tq) (a1 a2:Array Value) (b1 b2:Option Addr) (l1 c1 l2 c2:Nat) (N1 N2:List Int) (k1 k2:Nat) (j:Nat→Value) (bq1 kq1:Nat):evL (yty.enm (prfd0 :: tabM6) [mMask] 2000004) (oT (cAt [1,1,1,0] (bdy Tryd.f5))) ((oT (cAt [1,1,1,0] (bdy Tryd.f5))).toList.drop 6) ⟨(((yz4_op_m0 g0 g1 t1 t2 a1 a2 b1 b2 l1 c1 l2 c2 N1 N2 k1 k2 j).set 38 (.tuple #[.slice (some ⟨bq1,0,none⟩) 0 kq1,.int .i64 0])).set 34 (.tuple #[.slice (some ⟨bq1,0,none⟩) 0 kq1,.int .i64 0])).set 39 (.slice (some ⟨6,0,none⟩) 0 kq1),[((wA .u32 64 kL2),g0),((wA .u64 80 kL5),g1),(a1,t1),(a2,t2),((wA .u8 k1 (N1 ++ [77])),(5,(0,0))),((wA .u8 k2 (N2 ++ [77])),(5,(0,0)))] ++ [(wA .u8 kq1 (okN (wA .u8 64 (key2 N1)) N2 0),5,(0,0))],True,[]⟩=some ⟨yz4_op_b g0 g1 t1 t2 a1 a2 b1 b2 l1 c1 l2 c2 N1 N2 k1 k2 j bq1 kq1,[((wA .u32 64 kL2),g0),((wA .u64 80 kL5),g1),(a1,t1),(a2,t2),((wA .u8 k1 (N1 ++ [77])),(5,(0,0))),((wA .u8 k2 (N2 ++ [77])),(5,(0,0))),((wA .u8 kq1 (okN (wA .u8 64 (key2 N1)) N2 0)),(5,(0,0)))],(((True∧True)∧True)∧True),[]⟩:=by kernel_rfl
theorem yz4_o (g0 g1 t1 t2:Tq) (a1 a2:Array Value) (b1 b2:Option Addr) (l1 c1 l2 c2:Nat) (N1 N2:List Int) (k1 k2:Nat) (j:Nat→Value) (hk:BytesOk [(wA .u32 64 kL2,g0),(wA .u64 80 kL5,g1),(a1,t1),(a2,t2)] b1 l1 c1) (hN1:bytesOf [(wA .u32 64 kL2,g0),(wA .u64 80 kL5,g1),(a1,t1),(a2,t2)] b1 l1=N1) (ht:BytesOk [(wA .u32 64 kL2,g0),(wA .u64 80 kL5,g1),(a1,t1),(a2,t2)] b2 l2 c2) (hN2:bytesOf [(wA .u32 64 kL2,g0),(wA .u64 80 kL5,g1),(a1,t1),(a2,t2)] b2 l2=N2) (hl1:l1≤2000) (hl2:l2≤2000) (hk1:(N1 ++ [77]).length≤k1) (hk2:(N2 ++ [77]).length≤k2)  :Runs Tryd.prog (cAt [1,1,1,0] (bdy Tryd.f5)) ⟨yzC_s g0 g1 t1 t2 a1 a2 b1 b2 l1 c1 l2 c2 N1 N2 k1 k2 j,yzC_m g0 g1 t1 t2 a1 a2 b1 b2 l1 c1 l2 c2 N1 N2 k1 k2,c0,ch0⟩ (fun e s=>e= .normal∧∃(k1_:Nat),∃j c ch,(0≤k1_)∧s=⟨yzD_s g0 g1 t1 t2 a1 a2 b1 b2 l1 c1 l2 c2 N1 N2 k1 k2 k1_ j,yzD_m g0 g1 t1 t2 a1 a2 b1 b2 l1 c1 l2 c2 N1 N2 k1 k2 k1_,c,ch⟩) 2000004:=by
  refine runs_region (K:=fun s=>∃(k1_:Nat),∃j c ch,(0≤k1_)∧s=⟨yzD_s g0 g1 t1 t2 a1 a2 b1 b2 l1 c1 l2 c2 N1 N2 k1 k2 k1_ j,yzD_m g0 g1 t1 t2 a1 a2 b1 b2 l1 c1 l2 c2 N1 N2 k1 k2 k1_,c,ch⟩) (by kernel_rfl) ?_
  refine runsL_callTS (E:=(yty.enm (prfd0 :: tabM6) [mMask] 2000004)) (f:=22) (xs:= [.tmp 35,.tmp 36,.tmp 37]) (d0:=38) (d1:=34) (d2:=39) (q:= .u8) (n:=0) (L:=(okN (wA .u8 64 (key2 N1)) N2 0)) (e:=5) (v:= .int .i64 0) 3 (yz4_op_0 g0 g1 t1 t2 a1 a2 b1 b2 l1 c1 l2 c2 N1 N2 k1 k2 j) (tt3 trivial) (by kernel_rfl) (by kernel_rfl) (by kernel_rfl) (call_of Tryd.func22 (by kernel_rfl) (by kernel_rfl)) rfl ((by
    have e1:bytesOf [(wA .u32 64 kL2,g0),(wA .u64 80 kL5,g1),(a1,t1),(a2,t2),(wA .u8 k1 (N1 ++ [77]),5,(0,0)),(wA .u8 k2 (N2 ++ [77]),5,(0,0))] (some ⟨4,0,none⟩) l1=N1:=(lentN (hN1 ▸ hk.bt) (hN1 ▸ hk.len) hk1).2
    have e2:bytesOf [(wA .u32 64 kL2,g0),(wA .u64 80 kL5,g1),(a1,t1),(a2,t2),(wA .u8 k1 (N1 ++ [77]),5,(0,0)),(wA .u8 k2 (N2 ++ [77]),5,(0,0))] (some ⟨5,0,none⟩) l2=N2:=(lentN (hN2 ▸ ht.bt) (hN2 ▸ ht.len) hk2).2
    have h_:=Ee_m (mem:= [(wA .u32 64 kL2,g0),(wA .u64 80 kL5,g1),(a1,t1),(a2,t2),(wA .u8 k1 (N1 ++ [77]),5,(0,0)),(wA .u8 k2 (N2 ++ [77]),5,(0,0))]) (some ⟨4,0,none⟩) (some ⟨5,0,none⟩) l1 k1 l2 k2 0 rfl rfl rfl rfl (lentOk (i:=4) (hN1 ▸ hk.bt) (hN1 ▸ hk.len) hk1 rfl) (lentOk (i:=5) (hN2 ▸ ht.bt) (hN2 ▸ ht.len) hk2 rfl) ⟨by omega,by omega⟩ (by omega)
    rw[e1,e2] at h_
    exact h_)) rfl (of_decide_eq_true (by kernel_rfl)) ⟨of_decide_eq_true (by kernel_rfl),of_decide_eq_true (by kernel_rfl)⟩ (fun bq1 kq1 c ch hk1=> ?_)
  refine(runsL_ev _ (yz4_op_e g0 g1 t1 t2 a1 a2 b1 b2 l1 c1 l2 c2 N1 N2 k1 k2 j bq1 kq1) (tt3 trivial)).mono ?_
  rintro s hs
  refine⟨kq1,fun q=>s.tm.getD q undef,s.c,s.ch,by rw[okN_len] at hk1;exact hk1,?_⟩
  subst hs
  kernel_rfl
theorem yz4:yzA_R [1,1,1,0] (yzC k_6) .normal (fun z_=>∃(k1_:Nat) (k_7:yzD_c k_6 k1_),z_=yzD k_7):=by
  have⟨hk,hN1,ht,hN2,hl1,hl2⟩:=id k_5
  have⟨hk1,hk2⟩:=id k_6
  refine fun j c0 ch0=> ?_
  rw[show(yzC k_6).at j c0 ch0=⟨yzC_s g0 g1 t1 t2 a1 a2 b1 b2 l1 c1 l2 c2 N1 N2 k1 k2 j,yzC_m g0 g1 t1 t2 a1 a2 b1 b2 l1 c1 l2 c2 N1 N2 k1 k2,c0,ch0⟩ from by kernel_rfl]
  refine(yz4_o g0 g1 t1 t2 a1 a2 b1 b2 l1 c1 l2 c2 N1 N2 k1 k2 j hk hN1 ht hN2 hl1 hl2 hk1 hk2 ).mono ?_
  rintro e s ⟨h_,k1_,j,c,ch,f8_,hs_⟩
  exact⟨_,⟨h_,⟨k1_,⟨f8_⟩,rfl⟩⟩,j,c,ch,hs_.trans (by kernel_rfl)⟩
abbrev yzE (_:yzD_c k_6 k3):FS:=⟨false,71,[(0,.slice b1 l1 c1),(1,.slice b2 l2 c2),(2,.int .i64 0),(7,.slice (some ⟨4,0,none⟩) l1 k1),(8,.slice (some ⟨5,0,none⟩) l2 k2),(9,.slice (some ⟨6,0,none⟩) 0 k3),(10,.int .i64 0),(11,.slice none 0 0),(12,.int .i64 0)],[((wA .u32 64 kL2),g0),((wA .u64 80 kL5),g1),(a1,t1),(a2,t2),((wA .u8 k1 (N1 ++ [77])),(5,(0,0))),((wA .u8 k2 (N2 ++ [77])),(5,(0,0))),((wA .u8 k3 (okN (wA .u8 64 (key2 N1)) N2 0)),(5,(0,0)))]⟩
theorem yz5:yzA_R [1,1,1,1,0] (yzD k_7) .normal (fun z_=>z_=yzE k_7):=by
  have⟨hk,hN1,ht,hN2,hl1,hl2⟩:=id k_5
  exact rn_ev (yty.enm (prfd0 :: tabM6) [mMask] 2000004) yzA_h mixed _ none [] [(6,((wA .u32 64 kL2)=wA .u32 64 kL2∧(wA .u64 80 kL5)=wA .u64 80 kL5∧BytesOk [((wA .u32 64 kL2),g0),((wA .u64 80 kL5),g1),(a1,t1),(a2,t2),((wA .u8 k1 (N1 ++ [77])),(5,(0,0))),((wA .u8 k2 (N2 ++ [77])),(5,(0,0))),((wA .u8 k3 (okN (wA .u8 64 (key2 N1)) N2 0)),(5,(0,0)))] b1 l1 c1∧BytesOk [((wA .u32 64 kL2),g0),((wA .u64 80 kL5),g1),(a1,t1),(a2,t2),((wA .u8 k1 (N1 ++ [77])),(5,(0,0))),((wA .u8 k2 (N2 ++ [77])),(5,(0,0))),((wA .u8 k3 (okN (wA .u8 64 (key2 N1)) N2 0)),(5,(0,0)))] b2 l2 c2∧(0:Int)=0))] 5 (fun j M=>by kernel_rfl) (A1 ⟨rfl,rfl,(hk.app (x:= [_,_,_])).1,(ht.app (x:= [_,_,_])).1,rfl⟩ A0) rfl
abbrev yzF (_:yzD_c k_6 k3):FS:=⟨false,71,[(6,.bool true)],[((wA .u32 64 kL2),g0),((wA .u64 80 kL5),g1),(a1,t1),(a2,t2),((wA .u8 k1 (N1 ++ [77])),(5,(0,0))),((wA .u8 k2 (N2 ++ [77])),(5,(0,0))),((wA .u8 k3 (okN (wA .u8 64 (key2 N1)) N2 0)),(5,(0,0)))]⟩
theorem yz6:yzA_R [1,1,1,1,1] (yzE k_7) .ret (fun z_=>z_=yzF k_7):=by
  have⟨hk,hN1,ht,hN2,hl1,hl2⟩:=id k_5
  have⟨hk1,hk2⟩:=id k_6
  have⟨hk3⟩:=id k_7
  have hl1':N1.length=l1:=hN1 ▸ hk.len
  have hl2':N2.length=l2:=hN2 ▸ ht.len
  have hA:BytesOk [(wA .u32 64 kL2,g0),(wA .u64 80 kL5,g1),(a1,t1),(a2,t2),(wA .u8 k1 (N1 ++ [77]),5,(0,0)),(wA .u8 k2 (N2 ++ [77]),5,(0,0)),(wA .u8 k3 (okN (wA .u8 64 (key2 N1)) N2 0),5,(0,0))] b1 l1 c1∧bytesOf [(wA .u32 64 kL2,g0),(wA .u64 80 kL5,g1),(a1,t1),(a2,t2),(wA .u8 k1 (N1 ++ [77]),5,(0,0)),(wA .u8 k2 (N2 ++ [77]),5,(0,0)),(wA .u8 k3 (okN (wA .u8 64 (key2 N1)) N2 0),5,(0,0))] b1 l1=bytesOf [(wA .u32 64 kL2,g0),(wA .u64 80 kL5,g1),(a1,t1),(a2,t2)] b1 l1:=hk.app (x:= [_,_,_])
  have hB:BytesOk [(wA .u32 64 kL2,g0),(wA .u64 80 kL5,g1),(a1,t1),(a2,t2),(wA .u8 k1 (N1 ++ [77]),5,(0,0)),(wA .u8 k2 (N2 ++ [77]),5,(0,0)),(wA .u8 k3 (okN (wA .u8 64 (key2 N1)) N2 0),5,(0,0))] b2 l2 c2∧bytesOf [(wA .u32 64 kL2,g0),(wA .u64 80 kL5,g1),(a1,t1),(a2,t2),(wA .u8 k1 (N1 ++ [77]),5,(0,0)),(wA .u8 k2 (N2 ++ [77]),5,(0,0)),(wA .u8 k3 (okN (wA .u8 64 (key2 N1)) N2 0),5,(0,0))] b2 l2=bytesOf [(wA .u32 64 kL2,g0),(wA .u64 80 kL5,g1),(a1,t1),(a2,t2)] b2 l2:=ht.app (x:= [_,_,_])
  rw[hN1] at hA
  rw[hN2] at hB
  have hk1':=hk1
  have hk2':=hk2
  simp only[List.length_append,List.length_cons,List.length_nil] at hk1' hk2'
  exact rn_ev (yty.enm (prfd0 :: tabM6) [mMask] 2000004) yzA_h mixed _ none [none,none,some (.bool true)] [(4,((wA .u8 k1 (N1 ++ [77]))=wA .u8 k1 ((bytesOf [((wA .u32 64 kL2),g0),((wA .u64 80 kL5),g1),(a1,t1),(a2,t2),((wA .u8 k1 (N1 ++ [77])),(5,(0,0))),((wA .u8 k2 (N2 ++ [77])),(5,(0,0))),((wA .u8 k3 (okN (wA .u8 64 (key2 N1)) N2 0)),(5,(0,0)))] b1 l1) ++ [77])∧l1=l1∧BytesOk [((wA .u32 64 kL2),g0),((wA .u64 80 kL5),g1),(a1,t1),(a2,t2),((wA .u8 k1 (N1 ++ [77])),(5,(0,0))),((wA .u8 k2 (N2 ++ [77])),(5,(0,0))),((wA .u8 k3 (okN (wA .u8 64 (key2 N1)) N2 0)),(5,(0,0)))] b1 l1 c1∧l1≤100000000∧l1+1≤k1)),(6,((wA .u8 k2 (N2 ++ [77]))=wA .u8 k2 ((bytesOf [((wA .u32 64 kL2),g0),((wA .u64 80 kL5),g1),(a1,t1),(a2,t2),((wA .u8 k1 (N1 ++ [77])),(5,(0,0))),((wA .u8 k2 (N2 ++ [77])),(5,(0,0))),((wA .u8 k3 (okN (wA .u8 64 (key2 N1)) N2 0)),(5,(0,0)))] b2 l2) ++ [77])∧l2=l2∧BytesOk [((wA .u32 64 kL2),g0),((wA .u64 80 kL5),g1),(a1,t1),(a2,t2),((wA .u8 k1 (N1 ++ [77])),(5,(0,0))),((wA .u8 k2 (N2 ++ [77])),(5,(0,0))),((wA .u8 k3 (okN (wA .u8 64 (key2 N1)) N2 0)),(5,(0,0)))] b2 l2 c2∧l2≤100000000∧l2+1≤k2)),(6,(((wA .u8 k3 (okN (wA .u8 64 (key2 N1)) N2 0)).extract 0 (0+0)).all isB8=true∧0+0≤(wA .u8 k3 (okN (wA .u8 64 (key2 N1)) N2 0)).size)),(5,(((bstr ((wA .u8 k3 (okN (wA .u8 64 (key2 N1)) N2 0)).extract 0 (0+0)))).toList == ((bstr #[])).toList)=true),(14,((wA .u32 64 kL2)=wA .u32 64 kL2∧(wA .u64 80 kL5)=wA .u64 80 kL5))] 2 (fun j M=>by kernel_rfl) (A1 ⟨by rw[hA.2],rfl,hA.1,by omega,by omega⟩ (A1 ⟨by rw[hB.2],rfl,hB.1,by omega,by omega⟩ (A1 (ext_wA (Nat.zero_le _) (by rw[okN_len];exact Nat.zero_le _) (okN_bt _ _ _)) (A1 (by rw[show(wA .u8 k3 (okN (wA .u8 64 (key2 N1)) N2 0)).extract 0 (0+0)= #[] from by simp];exact beq_self_eq_true _) (A1 ⟨rfl,rfl⟩ A0))))) rfl
theorem yzu':yzA_R [] (yzA k_5) .ret (fun z_=>∃(k12 k22 k1_3:Nat) (k_6:yzC_c k_5 k12 k22) (k_7:yzD_c k_6 k1_3),z_=yzF k_7):=by
  refine rn_seq (w:= []) (by kernel_rfl) yz0 ?_
  rintro _ rfl
  refine rn_seq (w:= [1]) (by kernel_rfl) yz1 ?_
  rintro _ rfl
  refine rn_seq (w:= [1,1]) (by kernel_rfl) yz3 ?_
  rintro _ ⟨k12,k22,k_6,rfl⟩
  refine rn_seq (w:= [1,1,1]) (by kernel_rfl) yz4 ?_
  rintro _ ⟨k1_3,k_7,rfl⟩
  refine rn_seq (w:= [1,1,1,1]) (by kernel_rfl) yz5 ?_
  rintro _ rfl
  exact(yz6).mono fun _ e_=>⟨k12,k22,k1_3,k_6,k_7,e_⟩
abbrev yzA_s (g0 g1 t1 t2:Tq) (a1 a2:Array Value) (b1 b2:Option Addr) (l1 c1 l2 c2:Nat) (N1 N2:List Int) (j:Nat→Value):List Value:=([.slice b1 l1 c1,.slice b2 l2 c2,.int .i64 0] ++ (JU 68))
abbrev yzA_m (g0 g1 t1 t2:Tq) (a1 a2:Array Value) (b1 b2:Option Addr) (l1 c1 l2 c2:Nat) (N1 N2:List Int):List Mb:= [((wA .u32 64 kL2),g0),((wA .u64 80 kL5),g1),(a1,t1),(a2,t2)]
abbrev yzF_s (g0 g1 t1 t2:Tq) (a1 a2:Array Value) (b1 b2:Option Addr) (l1 c1 l2 c2:Nat) (N1 N2:List Int) (k1 k2:Nat) (k3:Nat) (j:Nat→Value):List Value:=(J j 0 6 ++ ([.bool true] ++ (J j 7 64)))
abbrev yzF_m (g0 g1 t1 t2:Tq) (a1 a2:Array Value) (b1 b2:Option Addr) (l1 c1 l2 c2:Nat) (N1 N2:List Int) (k1 k2:Nat) (k3:Nat):List Mb:= [((wA .u32 64 kL2),g0),((wA .u64 80 kL5),g1),(a1,t1),(a2,t2),((wA .u8 k1 (N1 ++ [77])),(5,(0,0))),((wA .u8 k2 (N2 ++ [77])),(5,(0,0))),((wA .u8 k3 (okN (wA .u8 64 (key2 N1)) N2 0)),(5,(0,0)))]
theorem yzu (g0 g1 t1 t2:Tq) (a1 a2:Array Value) (b1 b2:Option Addr) (l1 c1 l2 c2:Nat) (N1 N2:List Int) (j:Nat→Value) (hk:BytesOk [(wA .u32 64 kL2,g0),(wA .u64 80 kL5,g1),(a1,t1),(a2,t2)] b1 l1 c1) (hN1:bytesOf [(wA .u32 64 kL2,g0),(wA .u64 80 kL5,g1),(a1,t1),(a2,t2)] b1 l1=N1) (ht:BytesOk [(wA .u32 64 kL2,g0),(wA .u64 80 kL5,g1),(a1,t1),(a2,t2)] b2 l2 c2) (hN2:bytesOf [(wA .u32 64 kL2,g0),(wA .u64 80 kL5,g1),(a1,t1),(a2,t2)] b2 l2=N2) (hl1:l1≤2000) (hl2:l2≤2000)  :Runs Tryd.prog (cAt [] (bdy Tryd.f5)) ⟨yzA_s g0 g1 t1 t2 a1 a2 b1 b2 l1 c1 l2 c2 N1 N2 j,yzA_m g0 g1 t1 t2 a1 a2 b1 b2 l1 c1 l2 c2 N1 N2,c0,ch0⟩ (fun e s=>e= .ret∧∃(k12:Nat) (k22:Nat) (k1_3:Nat),∃j c ch,((N1 ++ [77]).length≤k12)∧((N2 ++ [77]).length≤k22)∧(0≤k1_3)∧s=⟨yzF_s g0 g1 t1 t2 a1 a2 b1 b2 l1 c1 l2 c2 N1 N2 k12 k22 k1_3 j,yzF_m g0 g1 t1 t2 a1 a2 b1 b2 l1 c1 l2 c2 N1 N2 k12 k22 k1_3,c,ch⟩) 2000004:=by
  refine(Rn.old (yzu' (k_5:=(⟨hk,hN1,ht,hN2,hl1,hl2⟩:yzA_c g0 g1 t1 t2 a1 a2 b1 b2 l1 c1 l2 c2 N1 N2))) j (by kernel_rfl)).mono ?_
  rintro e s ⟨rfl,_,⟨k12,k22,k1_3,k_6,k_7,rfl⟩,j,c,ch,rfl⟩
  have⟨x_hk1,x_hk2⟩:=k_6
  have⟨x_hk3⟩:=k_7
  exact⟨rfl,k12,k22,k1_3,j,c,ch,x_hk1,x_hk2,x_hk3,by kernel_rfl⟩
def ygA_h (i:Nat):Hn:=⟨0,[],[],[],[]⟩
abbrev ygA_R (w:List Nat) (S:FS) (e:Exit) (K:FS→Prop):Prop:=Rn Tryd.prog (cAt w (bdy Tryd.f5)) S e K 2000004
structure ygA_c (g0 g1 t1 t2:Tq) (a1 a2:Array Value) (b1 b2:Option Addr) (l1 c1 l2 c2:Nat) (N1 N2:List Int) (n:Nat):Prop where
  hk:BytesOk [(wA .u32 64 kL2,g0),(wA .u64 80 kL5,g1),(a1,t1),(a2,t2)] b1 l1 c1
  hN1:bytesOf [(wA .u32 64 kL2,g0),(wA .u64 80 kL5,g1),(a1,t1),(a2,t2)] b1 l1=N1
  ht:BytesOk [(wA .u32 64 kL2,g0),(wA .u64 80 kL5,g1),(a1,t1),(a2,t2)] b2 l2 c2
  hN2:bytesOf [(wA .u32 64 kL2,g0),(wA .u64 80 kL5,g1),(a1,t1),(a2,t2)] b2 l2=N2
  hl1:l1≤2000
  hl2:l2≤2000
  hn:n≤500
  h0n:0<n
variable {n:Nat} {k_8:ygA_c g0 g1 t1 t2 a1 a2 b1 b2 l1 c1 l2 c2 N1 N2 n}
abbrev ygA (_:ygA_c g0 g1 t1 t2 a1 a2 b1 b2 l1 c1 l2 c2 N1 N2 n):FS:=⟨true,71,[(0,.slice b1 l1 c1),(1,.slice b2 l2 c2),(2,.int .i64 (n:Int))],[((wA .u32 64 kL2),g0),((wA .u64 80 kL5),g1),(a1,t1),(a2,t2)]⟩
abbrev ygB (_:ygA_c g0 g1 t1 t2 a1 a2 b1 b2 l1 c1 l2 c2 N1 N2 n):FS:=⟨false,71,[(0,.slice b1 l1 c1),(1,.slice b2 l2 c2),(2,.int .i64 (n:Int)),(6,.bool false)],[((wA .u32 64 kL2),g0),((wA .u64 80 kL5),g1),(a1,t1),(a2,t2)]⟩
theorem yg0:ygA_R [0] (ygA k_8) .normal (fun z_=>z_=ygB k_8):=rn_ev (yty.enm tabM6 [mMask] 2000004) ygA_h mixed _ none [] [] 1 (fun j M=>by kernel_rfl) A0 rfl
theorem yg1:ygA_R [1,0] (ygB k_8) .normal (fun z_=>z_=ygB k_8):=by
  have⟨hk,hN1,ht,hN2,hl1,hl2,hn,h0n⟩:=id k_8
  exact rn_ev (yty.enm tabM6 [mMask] 2000004) ygA_h mixed _ none [some (.bool false),some (.bool false),some (.bool false)] [(5,(decide (2000<(l1:Int)))=false),(7,(decide (2000<(l2:Int)))=false),(7,(decide (500<(n:Int)))=false)] 3 (fun j M=>by kernel_rfl) (A1 (decide_eq_false (by omega)) (A1 (decide_eq_false (by omega)) (A1 (decide_eq_false (by omega)) A0))) rfl
structure ygC_c (_:ygA_c g0 g1 t1 t2 a1 a2 b1 b2 l1 c1 l2 c2 N1 N2 n) (k1 k2:Nat):Prop where
  hk1:(N1 ++ [77]).length≤k1
  hk2:(N2 ++ [77]).length≤k2
variable {k_9:ygC_c k_8 k1 k2}
abbrev ygC (_:ygC_c k_8 k1 k2):FS:=⟨false,71,[(0,.slice b1 l1 c1),(1,.slice b2 l2 c2),(2,.int .i64 (n:Int)),(7,.slice (some ⟨4,0,none⟩) l1 k1),(8,.slice (some ⟨5,0,none⟩) l2 k2)],[((wA .u32 64 kL2),g0),((wA .u64 80 kL5),g1),(a1,t1),(a2,t2),((wA .u8 k1 (N1 ++ [77])),(5,(0,0))),((wA .u8 k2 (N2 ++ [77])),(5,(0,0)))]⟩
theorem yg3:ygA_R [1,1,0] (ygB k_8) .normal (fun z_=>∃(k1 k2:Nat) (k_9:ygC_c k_8 k1 k2),z_=ygC k_9):=by
  have⟨hk,hN1,ht,hN2,hl1,hl2,hn,h0n⟩:=id k_8
  refine rn_reg none (by kernel_rfl) fun j c0 ch0=> ?_
  have hM1:MakesA Tryd.prog 14 [((wA .u32 64 kL2),g0),((wA .u64 80 kL5),g1),(a1,t1),(a2,t2)] [.slice b1 l1 c1] .u8 l1 (N1 ++ [77]) 5 2:=le7_c (hN1 ▸ hk.src) (by rw[← hN1];exact hk.len) (by omega)
  refine rl_call (yty.enm tabM6 [mMask] 2000004) (call_of Tryd.func14 (by kernel_rfl) (by kernel_rfl)) 1 [] [] 1 4 (some 31) hM1 (by kernel_rfl) A0 fun k1 c1_ e1_ hk1=> ?_
  have hM2:MakesA Tryd.prog 14 [((wA .u32 64 kL2),g0),((wA .u64 80 kL5),g1),(a1,t1),(a2,t2),((wA .u8 k1 (N1 ++ [77])),(5,(0,0)))] [.slice b2 l2 c2] .u8 l2 (N2 ++ [77]) 5 2:=le7_c ((hN2 ▸ (ht.app (x:= [_])).2 ▸ (ht.app (x:= [_])).1.src)) (by rw[← hN2];exact ht.len) (by omega)
  refine rl_call (yty.enm tabM6 [mMask] 2000004) (call_of Tryd.func14 (by kernel_rfl) (by kernel_rfl)) 1 [] [] 1 5 (some 33) hM2 (by kernel_rfl) A0 fun k2 c2_ e2_ hk2=> ?_
  exact rl_end (E:=(yty.enm tabM6 [mMask] 2000004)) _ [] [] 2 (fun M=>by kernel_rfl) A0 ⟨k1,k2,⟨by omega,by omega⟩,rfl⟩
structure ygD_c (_:ygC_c k_8 k1 k2) (k3:Nat):Prop where
  hk3:n≤k3
variable {k_10:ygD_c k_9 k3}
abbrev ygD (_:ygD_c k_9 k3):FS:=⟨false,71,[(0,.slice b1 l1 c1),(1,.slice b2 l2 c2),(2,.int .i64 (n:Int)),(7,.slice (some ⟨4,0,none⟩) l1 k1),(8,.slice (some ⟨5,0,none⟩) l2 k2),(9,.slice (some ⟨6,0,none⟩) n k3),(10,.int .i64 0)],[((wA .u32 64 kL2),g0),((wA .u64 80 kL5),g1),(a1,t1),(a2,t2),((wA .u8 k1 (N1 ++ [77])),(5,(0,0))),((wA .u8 k2 (N2 ++ [77])),(5,(0,0))),((wA .u8 k3 (okN (wA .u8 64 (key2 N1)) N2 n)),(5,(0,0)))]⟩
abbrev ygC_s (g0 g1 t1 t2:Tq) (a1 a2:Array Value) (b1 b2:Option Addr) (l1 c1 l2 c2:Nat) (N1 N2:List Int) (n:Nat) (k1 k2:Nat) (j:Nat→Value):List Value:=([.slice b1 l1 c1,.slice b2 l2 c2,.int .i64 (n:Int)] ++ (J j 3 4 ++ ([.slice (some ⟨4,0,none⟩) l1 k1,.slice (some ⟨5,0,none⟩) l2 k2] ++ (J j 9 62))))
abbrev ygC_m (g0 g1 t1 t2:Tq) (a1 a2:Array Value) (b1 b2:Option Addr) (l1 c1 l2 c2:Nat) (N1 N2:List Int) (n:Nat) (k1 k2:Nat):List Mb:= [((wA .u32 64 kL2),g0),((wA .u64 80 kL5),g1),(a1,t1),(a2,t2),((wA .u8 k1 (N1 ++ [77])),(5,(0,0))),((wA .u8 k2 (N2 ++ [77])),(5,(0,0)))]
abbrev ygD_s (g0 g1 t1 t2:Tq) (a1 a2:Array Value) (b1 b2:Option Addr) (l1 c1 l2 c2:Nat) (N1 N2:List Int) (n:Nat) (k1 k2:Nat) (k3:Nat) (j:Nat→Value):List Value:=([.slice b1 l1 c1,.slice b2 l2 c2,.int .i64 (n:Int)] ++ (J j 3 4 ++ ([.slice (some ⟨4,0,none⟩) l1 k1,.slice (some ⟨5,0,none⟩) l2 k2,.slice (some ⟨6,0,none⟩) n k3,.int .i64 0] ++ (J j 11 60))))
abbrev ygD_m (g0 g1 t1 t2:Tq) (a1 a2:Array Value) (b1 b2:Option Addr) (l1 c1 l2 c2:Nat) (N1 N2:List Int) (n:Nat) (k1 k2:Nat) (k3:Nat):List Mb:= [((wA .u32 64 kL2),g0),((wA .u64 80 kL5),g1),(a1,t1),(a2,t2),((wA .u8 k1 (N1 ++ [77])),(5,(0,0))),((wA .u8 k2 (N2 ++ [77])),(5,(0,0))),((wA .u8 k3 (okN (wA .u8 64 (key2 N1)) N2 n)),(5,(0,0)))]
def yg4_op_m0 (g0 g1 t1 t2:Tq) (a1 a2:Array Value) (b1 b2:Option Addr) (l1 c1 l2 c2:Nat) (N1 N2:List Int) (n:Nat) (k1 k2:Nat) (j:Nat→Value):List Value:=([.slice b1 l1 c1,.slice b2 l2 c2,.int .i64 (n:Int)] ++ (J j 3 4 ++ ([.slice (some ⟨4,0,none⟩) l1 k1,.slice (some ⟨5,0,none⟩) l2 k2] ++ (J j 9 26 ++ ([.slice (some ⟨4,0,none⟩) l1 k1,.slice (some ⟨5,0,none⟩) l2 k2,.int .i64 (n:Int)] ++ (J j 38 33))))))
theorem yg4_op_0 (g0 g1 t1 t2:Tq) (a1 a2:Array Value) (b1 b2:Option Addr) (l1 c1 l2 c2:Nat) (N1 N2:List Int) (n:Nat) (k1 k2:Nat) (j:Nat→Value):evL (yty.enm tabM6 [mMask] 2000004) (oT (cAt [1,1,1,0] (bdy Tryd.f5))) ((oT (cAt [1,1,1,0] (bdy Tryd.f5))).toList.take 3) ⟨ygC_s g0 g1 t1 t2 a1 a2 b1 b2 l1 c1 l2 c2 N1 N2 n k1 k2 j,ygC_m g0 g1 t1 t2 a1 a2 b1 b2 l1 c1 l2 c2 N1 N2 n k1 k2,True,[]⟩=some ⟨yg4_op_m0 g0 g1 t1 t2 a1 a2 b1 b2 l1 c1 l2 c2 N1 N2 n k1 k2 j,[((wA .u32 64 kL2),g0),((wA .u64 80 kL5),g1),(a1,t1),(a2,t2),((wA .u8 k1 (N1 ++ [77])),(5,(0,0))),((wA .u8 k2 (N2 ++ [77])),(5,(0,0)))],(((True∧True)∧True)∧True),[]⟩:=by kernel_rfl
def yg4_op_b (g0 g1 t1 t2:Tq) (a1 a2:Array Value) (b1 b2:Option Addr) (l1 c1 l2 c2:Nat) (N1 N2:List Int) (n:Nat) (k1 k2:Nat) (j:Nat→Value) (bq1 kq1:Nat):List Value:=([.slice b1 l1 c1,.slice b2 l2 c2,.int .i64 (n:Int)] ++ (J j 3 4 ++ ([.slice (some ⟨4,0,none⟩) l1 k1,.slice (some ⟨5,0,none⟩) l2 k2,.slice (some ⟨6,0,none⟩) n kq1,.int .i64 0] ++ (J j 11 23 ++ ([.tuple #[.slice (some ⟨bq1,0,none⟩) n kq1,.int .i64 0],.slice (some ⟨4,0,none⟩) l1 k1,.slice (some ⟨5,0,none⟩) l2 k2,.int .i64 (n:Int),.tuple #[.slice (some ⟨bq1,0,none⟩) n kq1,.int .i64 0],.slice (some ⟨6,0,none⟩) n kq1,.int .i64 0] ++ (J j 41 30))))))
theorem yg4_op_e (g0 g1 t1 t2:Tq) (a1 a2:Array Value) (b1 b2:Option Addr) (l1 c1 l2 c2:Nat) (N1 N2:List Int) (n:Nat) (k1 k2:Nat) (j:Nat→Value) (bq1 kq1:Nat):evL (yty.enm tabM6 [mMask] 2000004) (oT (cAt [1,1,1,0] (bdy Tryd.f5))) ((oT (cAt [1,1,1,0] (bdy Tryd.f5))).toList.drop 6) ⟨(((yg4_op_m0 g0 g1 t1 t2 a1 a2 b1 b2 l1 c1 l2 c2 N1 N2 n k1 k2 j).set 38 (.tuple #[.slice (some ⟨bq1,0,none⟩) n kq1,.int .i64 0])).set 34 (.tuple #[.slice (some ⟨bq1,0,none⟩) n kq1,.int .i64 0])).set 39 (.slice (some ⟨6,0,none⟩) n kq1),[((wA .u32 64 kL2),g0),((wA .u64 80 kL5),g1),(a1,t1),(a2,t2),((wA .u8 k1 (N1 ++ [77])),(5,(0,0))),((wA .u8 k2 (N2 ++ [77])),(5,(0,0)))] ++ [(wA .u8 kq1 (okN (wA .u8 64 (key2 N1)) N2 n),5,(0,0))],True,[]⟩=some ⟨yg4_op_b g0 g1 t1 t2 a1 a2 b1 b2 l1 c1 l2 c2 N1 N2 n k1 k2 j bq1 kq1,[((wA .u32 64 kL2),g0),((wA .u64 80 kL5),g1),(a1,t1),(a2,t2),((wA .u8 k1 (N1 ++ [77])),(5,(0,0))),((wA .u8 k2 (N2 ++ [77])),(5,(0,0))),((wA .u8 kq1 (okN (wA .u8 64 (key2 N1)) N2 n)),(5,(0,0)))],(((True∧True)∧True)∧True),[]⟩:=by kernel_rfl
theorem yg4_o (g0 g1 t1 t2:Tq) (a1 a2:Array Value) (b1 b2:Option Addr) (l1 c1 l2 c2:Nat) (N1 N2:List Int) (n:Nat) (k1 k2:Nat) (j:Nat→Value) (hk:BytesOk [(wA .u32 64 kL2,g0),(wA .u64 80 kL5,g1),(a1,t1),(a2,t2)] b1 l1 c1) (hN1:bytesOf [(wA .u32 64 kL2,g0),(wA .u64 80 kL5,g1),(a1,t1),(a2,t2)] b1 l1=N1) (ht:BytesOk [(wA .u32 64 kL2,g0),(wA .u64 80 kL5,g1),(a1,t1),(a2,t2)] b2 l2 c2) (hN2:bytesOf [(wA .u32 64 kL2,g0),(wA .u64 80 kL5,g1),(a1,t1),(a2,t2)] b2 l2=N2) (hl1:l1≤2000) (hl2:l2≤2000) (hn:n≤500) (h0n:0<n) (hk1:(N1 ++ [77]).length≤k1) (hk2:(N2 ++ [77]).length≤k2)  :Runs Tryd.prog (cAt [1,1,1,0] (bdy Tryd.f5)) ⟨ygC_s g0 g1 t1 t2 a1 a2 b1 b2 l1 c1 l2 c2 N1 N2 n k1 k2 j,ygC_m g0 g1 t1 t2 a1 a2 b1 b2 l1 c1 l2 c2 N1 N2 n k1 k2,c0,ch0⟩ (fun e s=>e= .normal∧∃(k1_:Nat),∃j c ch,(n≤k1_)∧s=⟨ygD_s g0 g1 t1 t2 a1 a2 b1 b2 l1 c1 l2 c2 N1 N2 n k1 k2 k1_ j,ygD_m g0 g1 t1 t2 a1 a2 b1 b2 l1 c1 l2 c2 N1 N2 n k1 k2 k1_,c,ch⟩) 2000004:=by
  refine runs_region (K:=fun s=>∃(k1_:Nat),∃j c ch,(n≤k1_)∧s=⟨ygD_s g0 g1 t1 t2 a1 a2 b1 b2 l1 c1 l2 c2 N1 N2 n k1 k2 k1_ j,ygD_m g0 g1 t1 t2 a1 a2 b1 b2 l1 c1 l2 c2 N1 N2 n k1 k2 k1_,c,ch⟩) (by kernel_rfl) ?_
  refine runsL_callTS (E:=(yty.enm tabM6 [mMask] 2000004)) (f:=22) (xs:= [.tmp 35,.tmp 36,.tmp 37]) (d0:=38) (d1:=34) (d2:=39) (q:= .u8) (n:=n) (L:=(okN (wA .u8 64 (key2 N1)) N2 n)) (e:=5) (v:= .int .i64 0) 3 (yg4_op_0 g0 g1 t1 t2 a1 a2 b1 b2 l1 c1 l2 c2 N1 N2 n k1 k2 j) (tt3 trivial) (by kernel_rfl) (by kernel_rfl) (by kernel_rfl) (call_of Tryd.func22 (by kernel_rfl) (by kernel_rfl)) rfl ((by
    have e1:bytesOf [(wA .u32 64 kL2,g0),(wA .u64 80 kL5,g1),(a1,t1),(a2,t2),(wA .u8 k1 (N1 ++ [77]),5,(0,0)),(wA .u8 k2 (N2 ++ [77]),5,(0,0))] (some ⟨4,0,none⟩) l1=N1:=(lentN (hN1 ▸ hk.bt) (hN1 ▸ hk.len) hk1).2
    have e2:bytesOf [(wA .u32 64 kL2,g0),(wA .u64 80 kL5,g1),(a1,t1),(a2,t2),(wA .u8 k1 (N1 ++ [77]),5,(0,0)),(wA .u8 k2 (N2 ++ [77]),5,(0,0))] (some ⟨5,0,none⟩) l2=N2:=(lentN (hN2 ▸ ht.bt) (hN2 ▸ ht.len) hk2).2
    have h_:=Ee_m (mem:= [(wA .u32 64 kL2,g0),(wA .u64 80 kL5,g1),(a1,t1),(a2,t2),(wA .u8 k1 (N1 ++ [77]),5,(0,0)),(wA .u8 k2 (N2 ++ [77]),5,(0,0))]) (some ⟨4,0,none⟩) (some ⟨5,0,none⟩) l1 k1 l2 k2 n rfl rfl rfl rfl (lentOk (i:=4) (hN1 ▸ hk.bt) (hN1 ▸ hk.len) hk1 rfl) (lentOk (i:=5) (hN2 ▸ ht.bt) (hN2 ▸ ht.len) hk2 rfl) ⟨by omega,by omega⟩ (by omega)
    rw[e1,e2] at h_
    exact h_)) rfl (of_decide_eq_true (by kernel_rfl)) ⟨of_decide_eq_true (by kernel_rfl),of_decide_eq_true (by kernel_rfl)⟩ (fun bq1 kq1 c ch hk1=> ?_)
  refine(runsL_ev _ (yg4_op_e g0 g1 t1 t2 a1 a2 b1 b2 l1 c1 l2 c2 N1 N2 n k1 k2 j bq1 kq1) (tt3 trivial)).mono ?_
  rintro s hs
  refine⟨kq1,fun q=>s.tm.getD q undef,s.c,s.ch,by rw[okN_len] at hk1;exact hk1,?_⟩
  subst hs
  kernel_rfl
theorem yg4:ygA_R [1,1,1,0] (ygC k_9) .normal (fun z_=>∃(k1_:Nat) (k_10:ygD_c k_9 k1_),z_=ygD k_10):=by
  have⟨hk,hN1,ht,hN2,hl1,hl2,hn,h0n⟩:=id k_8
  have⟨hk1,hk2⟩:=id k_9
  refine fun j c0 ch0=> ?_
  rw[show(ygC k_9).at j c0 ch0=⟨ygC_s g0 g1 t1 t2 a1 a2 b1 b2 l1 c1 l2 c2 N1 N2 n k1 k2 j,ygC_m g0 g1 t1 t2 a1 a2 b1 b2 l1 c1 l2 c2 N1 N2 n k1 k2,c0,ch0⟩ from by kernel_rfl]
  refine(yg4_o g0 g1 t1 t2 a1 a2 b1 b2 l1 c1 l2 c2 N1 N2 n k1 k2 j hk hN1 ht hN2 hl1 hl2 hn h0n hk1 hk2 ).mono ?_
  rintro e s ⟨h_,k1_,j,c,ch,f10_,hs_⟩
  exact⟨_,⟨h_,⟨k1_,⟨f10_⟩,rfl⟩⟩,j,c,ch,hs_.trans (by kernel_rfl)⟩
structure ygE_c (_:ygD_c k_9 k3) (k4:Nat):Prop where
  hk4:n≤k4
variable {k4:Nat} {k_11:ygE_c k_10 k4}
abbrev ygE (_:ygE_c k_10 k4):FS:=⟨false,71,[(0,.slice b1 l1 c1),(1,.slice b2 l2 c2),(2,.int .i64 (n:Int)),(7,.slice (some ⟨4,0,none⟩) l1 k1),(8,.slice (some ⟨5,0,none⟩) l2 k2),(9,.slice (some ⟨6,0,none⟩) n k3),(10,.int .i64 0),(11,.slice (some ⟨7,0,none⟩) n k4),(12,.int .i64 0)],[((wA .u32 64 kL2),g0),((wA .u64 80 kL5),g1),(a1,t1),(a2,t2),((wA .u8 k1 (N1 ++ [77])),(5,(0,0))),((wA .u8 k2 (N2 ++ [77])),(5,(0,0))),((wA .u8 k3 (okN (wA .u8 64 (key2 N1)) N2 n)),(5,(0,0))),((wA .u8 k4 (okN (wA .u8 64 (key2 N1)) N2 n)),(5,(0,0)))]⟩
abbrev ygE_s (g0 g1 t1 t2:Tq) (a1 a2:Array Value) (b1 b2:Option Addr) (l1 c1 l2 c2:Nat) (N1 N2:List Int) (n:Nat) (k1 k2:Nat) (k3:Nat) (k4:Nat) (j:Nat→Value):List Value:=([.slice b1 l1 c1,.slice b2 l2 c2,.int .i64 (n:Int)] ++ (J j 3 4 ++ ([.slice (some ⟨4,0,none⟩) l1 k1,.slice (some ⟨5,0,none⟩) l2 k2,.slice (some ⟨6,0,none⟩) n k3,.int .i64 0,.slice (some ⟨7,0,none⟩) n k4,.int .i64 0] ++ (J j 13 58))))
abbrev ygE_m (g0 g1 t1 t2:Tq) (a1 a2:Array Value) (b1 b2:Option Addr) (l1 c1 l2 c2:Nat) (N1 N2:List Int) (n:Nat) (k1 k2:Nat) (k3:Nat) (k4:Nat):List Mb:= [((wA .u32 64 kL2),g0),((wA .u64 80 kL5),g1),(a1,t1),(a2,t2),((wA .u8 k1 (N1 ++ [77])),(5,(0,0))),((wA .u8 k2 (N2 ++ [77])),(5,(0,0))),((wA .u8 k3 (okN (wA .u8 64 (key2 N1)) N2 n)),(5,(0,0))),((wA .u8 k4 (okN (wA .u8 64 (key2 N1)) N2 n)),(5,(0,0)))]
def yg5_op_m0 (g0 g1 t1 t2:Tq) (a1 a2:Array Value) (b1 b2:Option Addr) (l1 c1 l2 c2:Nat) (N1 N2:List Int) (n:Nat) (k1 k2:Nat) (k3:Nat) (j:Nat→Value):List Value:=([.slice b1 l1 c1,.slice b2 l2 c2,.int .i64 (n:Int)] ++ (J j 3 4 ++ ([.slice (some ⟨4,0,none⟩) l1 k1,.slice (some ⟨5,0,none⟩) l2 k2,.slice (some ⟨6,0,none⟩) n k3,.int .i64 0] ++ (J j 11 31 ++ ([.slice b1 l1 c1,.slice b2 l2 c2,.int .i64 (n:Int)] ++ (J j 45 26))))))
theorem yg5_op_0 (g0 g1 t1 t2:Tq) (a1 a2:Array Value) (b1 b2:Option Addr) (l1 c1 l2 c2:Nat) (N1 N2:List Int) (n:Nat) (k1 k2:Nat) (k3:Nat) (j:Nat→Value):evL (yty.enm tabM6 [mMask] 2000004) (oT (cAt [1,1,1,1,0] (bdy Tryd.f5))) ((oT (cAt [1,1,1,1,0] (bdy Tryd.f5))).toList.take 3) ⟨ygD_s g0 g1 t1 t2 a1 a2 b1 b2 l1 c1 l2 c2 N1 N2 n k1 k2 k3 j,ygD_m g0 g1 t1 t2 a1 a2 b1 b2 l1 c1 l2 c2 N1 N2 n k1 k2 k3,True,[]⟩=some ⟨yg5_op_m0 g0 g1 t1 t2 a1 a2 b1 b2 l1 c1 l2 c2 N1 N2 n k1 k2 k3 j,[((wA .u32 64 kL2),g0),((wA .u64 80 kL5),g1),(a1,t1),(a2,t2),((wA .u8 k1 (N1 ++ [77])),(5,(0,0))),((wA .u8 k2 (N2 ++ [77])),(5,(0,0))),((wA .u8 k3 (okN (wA .u8 64 (key2 N1)) N2 n)),(5,(0,0)))],(((True∧True)∧True)∧True),[]⟩:=by kernel_rfl
def yg5_op_b (g0 g1 t1 t2:Tq) (a1 a2:Array Value) (b1 b2:Option Addr) (l1 c1 l2 c2:Nat) (N1 N2:List Int) (n:Nat) (k1 k2:Nat) (k3:Nat) (j:Nat→Value) (bq1 kq1:Nat):List Value:=([.slice b1 l1 c1,.slice b2 l2 c2,.int .i64 (n:Int)] ++ (J j 3 4 ++ ([.slice (some ⟨4,0,none⟩) l1 k1,.slice (some ⟨5,0,none⟩) l2 k2,.slice (some ⟨6,0,none⟩) n k3,.int .i64 0,.slice (some ⟨7,0,none⟩) n kq1,.int .i64 0] ++ (J j 13 28 ++ ([.tuple #[.slice (some ⟨bq1,0,none⟩) n kq1,.int .i64 0],.slice b1 l1 c1,.slice b2 l2 c2,.int .i64 (n:Int),.tuple #[.slice (some ⟨bq1,0,none⟩) n kq1,.int .i64 0],.slice (some ⟨7,0,none⟩) n kq1,.int .i64 0] ++ (J j 48 23))))))
theorem yg5_op_e (g0 g1 t1 t2:Tq) (a1 a2:Array Value) (b1 b2:Option Addr) (l1 c1 l2 c2:Nat) (N1 N2:List Int) (n:Nat) (k1 k2:Nat) (k3:Nat) (j:Nat→Value) (bq1 kq1:Nat):evL (yty.enm tabM6 [mMask] 2000004) (oT (cAt [1,1,1,1,0] (bdy Tryd.f5))) ((oT (cAt [1,1,1,1,0] (bdy Tryd.f5))).toList.drop 6) ⟨(((yg5_op_m0 g0 g1 t1 t2 a1 a2 b1 b2 l1 c1 l2 c2 N1 N2 n k1 k2 k3 j).set 45 (.tuple #[.slice (some ⟨bq1,0,none⟩) n kq1,.int .i64 0])).set 41 (.tuple #[.slice (some ⟨bq1,0,none⟩) n kq1,.int .i64 0])).set 46 (.slice (some ⟨7,0,none⟩) n kq1),[((wA .u32 64 kL2),g0),((wA .u64 80 kL5),g1),(a1,t1),(a2,t2),((wA .u8 k1 (N1 ++ [77])),(5,(0,0))),((wA .u8 k2 (N2 ++ [77])),(5,(0,0))),((wA .u8 k3 (okN (wA .u8 64 (key2 N1)) N2 n)),(5,(0,0)))] ++ [(wA .u8 kq1 (okN (wA .u8 64 (key2 N1)) N2 n),5,(0,0))],True,[]⟩=some ⟨yg5_op_b g0 g1 t1 t2 a1 a2 b1 b2 l1 c1 l2 c2 N1 N2 n k1 k2 k3 j bq1 kq1,[((wA .u32 64 kL2),g0),((wA .u64 80 kL5),g1),(a1,t1),(a2,t2),((wA .u8 k1 (N1 ++ [77])),(5,(0,0))),((wA .u8 k2 (N2 ++ [77])),(5,(0,0))),((wA .u8 k3 (okN (wA .u8 64 (key2 N1)) N2 n)),(5,(0,0))),((wA .u8 kq1 (okN (wA .u8 64 (key2 N1)) N2 n)),(5,(0,0)))],(((True∧True)∧True)∧True),[]⟩:=by kernel_rfl
theorem yg5_o (g0 g1 t1 t2:Tq) (a1 a2:Array Value) (b1 b2:Option Addr) (l1 c1 l2 c2:Nat) (N1 N2:List Int) (n:Nat) (k1 k2:Nat) (k3:Nat) (j:Nat→Value) (hk:BytesOk [(wA .u32 64 kL2,g0),(wA .u64 80 kL5,g1),(a1,t1),(a2,t2)] b1 l1 c1) (hN1:bytesOf [(wA .u32 64 kL2,g0),(wA .u64 80 kL5,g1),(a1,t1),(a2,t2)] b1 l1=N1) (ht:BytesOk [(wA .u32 64 kL2,g0),(wA .u64 80 kL5,g1),(a1,t1),(a2,t2)] b2 l2 c2) (hN2:bytesOf [(wA .u32 64 kL2,g0),(wA .u64 80 kL5,g1),(a1,t1),(a2,t2)] b2 l2=N2) (hl1:l1≤2000) (hl2:l2≤2000) (hn:n≤500) (h0n:0<n) (hk1:(N1 ++ [77]).length≤k1) (hk2:(N2 ++ [77]).length≤k2) (hk3:n≤k3)  :Runs Tryd.prog (cAt [1,1,1,1,0] (bdy Tryd.f5)) ⟨ygD_s g0 g1 t1 t2 a1 a2 b1 b2 l1 c1 l2 c2 N1 N2 n k1 k2 k3 j,ygD_m g0 g1 t1 t2 a1 a2 b1 b2 l1 c1 l2 c2 N1 N2 n k1 k2 k3,c0,ch0⟩ (fun e s=>e= .normal∧∃(k1_:Nat),∃j c ch,(n≤k1_)∧s=⟨ygE_s g0 g1 t1 t2 a1 a2 b1 b2 l1 c1 l2 c2 N1 N2 n k1 k2 k3 k1_ j,ygE_m g0 g1 t1 t2 a1 a2 b1 b2 l1 c1 l2 c2 N1 N2 n k1 k2 k3 k1_,c,ch⟩) 2000004:=by
  refine runs_region (K:=fun s=>∃(k1_:Nat),∃j c ch,(n≤k1_)∧s=⟨ygE_s g0 g1 t1 t2 a1 a2 b1 b2 l1 c1 l2 c2 N1 N2 n k1 k2 k3 k1_ j,ygE_m g0 g1 t1 t2 a1 a2 b1 b2 l1 c1 l2 c2 N1 N2 n k1 k2 k3 k1_,c,ch⟩) (by kernel_rfl) ?_
  refine runsL_callTS (E:=(yty.enm tabM6 [mMask] 2000004)) (f:=23) (xs:= [.tmp 42,.tmp 43,.tmp 44]) (d0:=45) (d1:=41) (d2:=46) (q:= .u8) (n:=n) (L:=(okN (wA .u8 64 (key2 N1)) N2 n)) (e:=5) (v:= .int .i64 0) 3 (yg5_op_0 g0 g1 t1 t2 a1 a2 b1 b2 l1 c1 l2 c2 N1 N2 n k1 k2 k3 j) (tt3 trivial) (by kernel_rfl) (by kernel_rfl) (by kernel_rfl) (call_of Tryd.func23 (by kernel_rfl) (by kernel_rfl)) rfl ((by
    have e1:bytesOf [(wA .u32 64 kL2,g0),(wA .u64 80 kL5,g1),(a1,t1),(a2,t2),(wA .u8 k1 (N1 ++ [77]),5,(0,0)),(wA .u8 k2 (N2 ++ [77]),5,(0,0)),(wA .u8 k3 (okN (wA .u8 64 (key2 N1)) N2 n),5,(0,0))] b1 l1=N1:=(hk.app (x:= [_,_,_])).2.trans hN1
    have e2:bytesOf [(wA .u32 64 kL2,g0),(wA .u64 80 kL5,g1),(a1,t1),(a2,t2),(wA .u8 k1 (N1 ++ [77]),5,(0,0)),(wA .u8 k2 (N2 ++ [77]),5,(0,0)),(wA .u8 k3 (okN (wA .u8 64 (key2 N1)) N2 n),5,(0,0))] b2 l2=N2:=(ht.app (x:= [_,_,_])).2.trans hN2
    have h_:=De_m (mem:= [(wA .u32 64 kL2,g0),(wA .u64 80 kL5,g1),(a1,t1),(a2,t2),(wA .u8 k1 (N1 ++ [77]),5,(0,0)),(wA .u8 k2 (N2 ++ [77]),5,(0,0)),(wA .u8 k3 (okN (wA .u8 64 (key2 N1)) N2 n),5,(0,0))]) b1 b2 l1 c1 l2 c2 n rfl rfl rfl rfl (hk.app (x:= [_,_,_])).1 (ht.app (x:= [_,_,_])).1 ⟨by omega,by omega⟩ (by omega) h0n
    rw[e1,e2] at h_
    exact h_)) rfl (of_decide_eq_true (by kernel_rfl)) ⟨of_decide_eq_true (by kernel_rfl),of_decide_eq_true (by kernel_rfl)⟩ (fun bq1 kq1 c ch hk1=> ?_)
  refine(runsL_ev _ (yg5_op_e g0 g1 t1 t2 a1 a2 b1 b2 l1 c1 l2 c2 N1 N2 n k1 k2 k3 j bq1 kq1) (tt3 trivial)).mono ?_
  rintro s hs
  refine⟨kq1,fun q=>s.tm.getD q undef,s.c,s.ch,by rw[okN_len] at hk1;exact hk1,?_⟩
  subst hs
  kernel_rfl
theorem yg5:ygA_R [1,1,1,1,0] (ygD k_10) .normal (fun z_=>∃(k1_:Nat) (k_11:ygE_c k_10 k1_),z_=ygE k_11):=by
  have⟨hk,hN1,ht,hN2,hl1,hl2,hn,h0n⟩:=id k_8
  have⟨hk1,hk2⟩:=id k_9
  have⟨hk3⟩:=id k_10
  refine fun j c0 ch0=> ?_
  rw[show(ygD k_10).at j c0 ch0=⟨ygD_s g0 g1 t1 t2 a1 a2 b1 b2 l1 c1 l2 c2 N1 N2 n k1 k2 k3 j,ygD_m g0 g1 t1 t2 a1 a2 b1 b2 l1 c1 l2 c2 N1 N2 n k1 k2 k3,c0,ch0⟩ from by kernel_rfl]
  refine(yg5_o g0 g1 t1 t2 a1 a2 b1 b2 l1 c1 l2 c2 N1 N2 n k1 k2 k3 j hk hN1 ht hN2 hl1 hl2 hn h0n hk1 hk2 hk3 ).mono ?_
  rintro e s ⟨h_,k1_,j,c,ch,f11_,hs_⟩
  exact⟨_,⟨h_,⟨k1_,⟨f11_⟩,rfl⟩⟩,j,c,ch,hs_.trans (by kernel_rfl)⟩
abbrev ygF (_:ygE_c k_10 k4):FS:=⟨false,71,[(6,.bool true)],[((wA .u32 64 kL2),g0),((wA .u64 80 kL5),g1),(a1,t1),(a2,t2),((wA .u8 k1 (N1 ++ [77])),(5,(0,0))),((wA .u8 k2 (N2 ++ [77])),(5,(0,0))),((wA .u8 k3 (okN (wA .u8 64 (key2 N1)) N2 n)),(5,(0,0))),((wA .u8 k4 (okN (wA .u8 64 (key2 N1)) N2 n)),(5,(0,0)))]⟩
theorem yg6:ygA_R [1,1,1,1,1] (ygE k_11) .ret (fun z_=>z_=ygF k_11):=by
  have⟨hk,hN1,ht,hN2,hl1,hl2,hn,h0n⟩:=id k_8
  have⟨hk1,hk2⟩:=id k_9
  have⟨hk3⟩:=id k_10
  have⟨hk4⟩:=id k_11
  have hl1':N1.length=l1:=hN1 ▸ hk.len
  have hl2':N2.length=l2:=hN2 ▸ ht.len
  have hA:BytesOk [(wA .u32 64 kL2,g0),(wA .u64 80 kL5,g1),(a1,t1),(a2,t2),(wA .u8 k1 (N1 ++ [77]),5,(0,0)),(wA .u8 k2 (N2 ++ [77]),5,(0,0)),(wA .u8 k3 (okN (wA .u8 64 (key2 N1)) N2 n),5,(0,0)),(wA .u8 k4 (okN (wA .u8 64 (key2 N1)) N2 n),5,(0,0))] b1 l1 c1∧bytesOf [(wA .u32 64 kL2,g0),(wA .u64 80 kL5,g1),(a1,t1),(a2,t2),(wA .u8 k1 (N1 ++ [77]),5,(0,0)),(wA .u8 k2 (N2 ++ [77]),5,(0,0)),(wA .u8 k3 (okN (wA .u8 64 (key2 N1)) N2 n),5,(0,0)),(wA .u8 k4 (okN (wA .u8 64 (key2 N1)) N2 n),5,(0,0))] b1 l1=bytesOf [(wA .u32 64 kL2,g0),(wA .u64 80 kL5,g1),(a1,t1),(a2,t2)] b1 l1:=hk.app (x:= [_,_,_,_])
  have hB:BytesOk [(wA .u32 64 kL2,g0),(wA .u64 80 kL5,g1),(a1,t1),(a2,t2),(wA .u8 k1 (N1 ++ [77]),5,(0,0)),(wA .u8 k2 (N2 ++ [77]),5,(0,0)),(wA .u8 k3 (okN (wA .u8 64 (key2 N1)) N2 n),5,(0,0)),(wA .u8 k4 (okN (wA .u8 64 (key2 N1)) N2 n),5,(0,0))] b2 l2 c2∧bytesOf [(wA .u32 64 kL2,g0),(wA .u64 80 kL5,g1),(a1,t1),(a2,t2),(wA .u8 k1 (N1 ++ [77]),5,(0,0)),(wA .u8 k2 (N2 ++ [77]),5,(0,0)),(wA .u8 k3 (okN (wA .u8 64 (key2 N1)) N2 n),5,(0,0)),(wA .u8 k4 (okN (wA .u8 64 (key2 N1)) N2 n),5,(0,0))] b2 l2=bytesOf [(wA .u32 64 kL2,g0),(wA .u64 80 kL5,g1),(a1,t1),(a2,t2)] b2 l2:=ht.app (x:= [_,_,_,_])
  rw[hN1] at hA
  rw[hN2] at hB
  have hk1':=hk1
  have hk2':=hk2
  simp only[List.length_append,List.length_cons,List.length_nil] at hk1' hk2'
  exact rn_ev (yty.enm tabM6 [mMask] 2000004) ygA_h mixed _ none [none,none,some (.bool true)] [(4,((wA .u8 k1 (N1 ++ [77]))=wA .u8 k1 ((bytesOf [((wA .u32 64 kL2),g0),((wA .u64 80 kL5),g1),(a1,t1),(a2,t2),((wA .u8 k1 (N1 ++ [77])),(5,(0,0))),((wA .u8 k2 (N2 ++ [77])),(5,(0,0))),((wA .u8 k3 (okN (wA .u8 64 (key2 N1)) N2 n)),(5,(0,0))),((wA .u8 k4 (okN (wA .u8 64 (key2 N1)) N2 n)),(5,(0,0)))] b1 l1) ++ [77])∧l1=l1∧BytesOk [((wA .u32 64 kL2),g0),((wA .u64 80 kL5),g1),(a1,t1),(a2,t2),((wA .u8 k1 (N1 ++ [77])),(5,(0,0))),((wA .u8 k2 (N2 ++ [77])),(5,(0,0))),((wA .u8 k3 (okN (wA .u8 64 (key2 N1)) N2 n)),(5,(0,0))),((wA .u8 k4 (okN (wA .u8 64 (key2 N1)) N2 n)),(5,(0,0)))] b1 l1 c1∧l1≤100000000∧l1+1≤k1)),(6,((wA .u8 k2 (N2 ++ [77]))=wA .u8 k2 ((bytesOf [((wA .u32 64 kL2),g0),((wA .u64 80 kL5),g1),(a1,t1),(a2,t2),((wA .u8 k1 (N1 ++ [77])),(5,(0,0))),((wA .u8 k2 (N2 ++ [77])),(5,(0,0))),((wA .u8 k3 (okN (wA .u8 64 (key2 N1)) N2 n)),(5,(0,0))),((wA .u8 k4 (okN (wA .u8 64 (key2 N1)) N2 n)),(5,(0,0)))] b2 l2) ++ [77])∧l2=l2∧BytesOk [((wA .u32 64 kL2),g0),((wA .u64 80 kL5),g1),(a1,t1),(a2,t2),((wA .u8 k1 (N1 ++ [77])),(5,(0,0))),((wA .u8 k2 (N2 ++ [77])),(5,(0,0))),((wA .u8 k3 (okN (wA .u8 64 (key2 N1)) N2 n)),(5,(0,0))),((wA .u8 k4 (okN (wA .u8 64 (key2 N1)) N2 n)),(5,(0,0)))] b2 l2 c2∧l2≤100000000∧l2+1≤k2)),(6,(((wA .u8 k3 (okN (wA .u8 64 (key2 N1)) N2 n)).extract 0 (0+n)).all isB8=true∧0+n≤(wA .u8 k3 (okN (wA .u8 64 (key2 N1)) N2 n)).size)),(2,(((wA .u8 k4 (okN (wA .u8 64 (key2 N1)) N2 n)).extract 0 (0+n)).all isB8=true∧0+n≤(wA .u8 k4 (okN (wA .u8 64 (key2 N1)) N2 n)).size)),(1,(((bstr ((wA .u8 k3 (okN (wA .u8 64 (key2 N1)) N2 n)).extract 0 (0+n)))).toList == ((bstr ((wA .u8 k4 (okN (wA .u8 64 (key2 N1)) N2 n)).extract 0 (0+n)))).toList)=true),(14,((wA .u32 64 kL2)=wA .u32 64 kL2∧(wA .u64 80 kL5)=wA .u64 80 kL5))] 2 (fun j M=>by kernel_rfl) (A1 ⟨by rw[hA.2],rfl,hA.1,by omega,by omega⟩ (A1 ⟨by rw[hB.2],rfl,hB.1,by omega,by omega⟩ (A1 (ext_wA (by rw[okN_len];exact Nat.le_refl _) (by rw[okN_len];exact hk3) (okN_bt _ _ _)) (A1 (ext_wA (by rw[okN_len];exact Nat.le_refl _) (by rw[okN_len];exact hk4) (okN_bt _ _ _)) (A1 (by rw[ext_eq (d:=k4) hk3 hk4 (fun i hi=>rfl)];exact beq_self_eq_true _) (A1 ⟨rfl,rfl⟩ A0)))))) rfl
theorem ygu':ygA_R [] (ygA k_8) .ret (fun z_=>∃(k12 k22 k1_3 k1_4:Nat) (k_9:ygC_c k_8 k12 k22) (k_10:ygD_c k_9 k1_3) (k_11:ygE_c k_10 k1_4),z_=ygF k_11):=by
  refine rn_seq (w:= []) (by kernel_rfl) yg0 ?_
  rintro _ rfl
  refine rn_seq (w:= [1]) (by kernel_rfl) yg1 ?_
  rintro _ rfl
  refine rn_seq (w:= [1,1]) (by kernel_rfl) yg3 ?_
  rintro _ ⟨k12,k22,k_9,rfl⟩
  refine rn_seq (w:= [1,1,1]) (by kernel_rfl) yg4 ?_
  rintro _ ⟨k1_3,k_10,rfl⟩
  refine rn_seq (w:= [1,1,1,1]) (by kernel_rfl) yg5 ?_
  rintro _ ⟨k1_4,k_11,rfl⟩
  exact(yg6).mono fun _ e_=>⟨k12,k22,k1_3,k1_4,k_9,k_10,k_11,e_⟩
abbrev ygA_s (g0 g1 t1 t2:Tq) (a1 a2:Array Value) (b1 b2:Option Addr) (l1 c1 l2 c2:Nat) (N1 N2:List Int) (n:Nat) (j:Nat→Value):List Value:=([.slice b1 l1 c1,.slice b2 l2 c2,.int .i64 (n:Int)] ++ (JU 68))
abbrev ygA_m (g0 g1 t1 t2:Tq) (a1 a2:Array Value) (b1 b2:Option Addr) (l1 c1 l2 c2:Nat) (N1 N2:List Int) (n:Nat):List Mb:= [((wA .u32 64 kL2),g0),((wA .u64 80 kL5),g1),(a1,t1),(a2,t2)]
abbrev ygF_s (g0 g1 t1 t2:Tq) (a1 a2:Array Value) (b1 b2:Option Addr) (l1 c1 l2 c2:Nat) (N1 N2:List Int) (n:Nat) (k1 k2:Nat) (k3:Nat) (k4:Nat) (j:Nat→Value):List Value:=(J j 0 6 ++ ([.bool true] ++ (J j 7 64)))
abbrev ygF_m (g0 g1 t1 t2:Tq) (a1 a2:Array Value) (b1 b2:Option Addr) (l1 c1 l2 c2:Nat) (N1 N2:List Int) (n:Nat) (k1 k2:Nat) (k3:Nat) (k4:Nat):List Mb:= [((wA .u32 64 kL2),g0),((wA .u64 80 kL5),g1),(a1,t1),(a2,t2),((wA .u8 k1 (N1 ++ [77])),(5,(0,0))),((wA .u8 k2 (N2 ++ [77])),(5,(0,0))),((wA .u8 k3 (okN (wA .u8 64 (key2 N1)) N2 n)),(5,(0,0))),((wA .u8 k4 (okN (wA .u8 64 (key2 N1)) N2 n)),(5,(0,0)))]
theorem ygu (g0 g1 t1 t2:Tq) (a1 a2:Array Value) (b1 b2:Option Addr) (l1 c1 l2 c2:Nat) (N1 N2:List Int) (n:Nat) (j:Nat→Value) (hk:BytesOk [(wA .u32 64 kL2,g0),(wA .u64 80 kL5,g1),(a1,t1),(a2,t2)] b1 l1 c1) (hN1:bytesOf [(wA .u32 64 kL2,g0),(wA .u64 80 kL5,g1),(a1,t1),(a2,t2)] b1 l1=N1) (ht:BytesOk [(wA .u32 64 kL2,g0),(wA .u64 80 kL5,g1),(a1,t1),(a2,t2)] b2 l2 c2) (hN2:bytesOf [(wA .u32 64 kL2,g0),(wA .u64 80 kL5,g1),(a1,t1),(a2,t2)] b2 l2=N2) (hl1:l1≤2000) (hl2:l2≤2000) (hn:n≤500) (h0n:0<n)  :Runs Tryd.prog (cAt [] (bdy Tryd.f5)) ⟨ygA_s g0 g1 t1 t2 a1 a2 b1 b2 l1 c1 l2 c2 N1 N2 n j,ygA_m g0 g1 t1 t2 a1 a2 b1 b2 l1 c1 l2 c2 N1 N2 n,c0,ch0⟩ (fun e s=>e= .ret∧∃(k12:Nat) (k22:Nat) (k1_3:Nat) (k1_4:Nat),∃j c ch,((N1 ++ [77]).length≤k12)∧((N2 ++ [77]).length≤k22)∧(n≤k1_3)∧(n≤k1_4)∧s=⟨ygF_s g0 g1 t1 t2 a1 a2 b1 b2 l1 c1 l2 c2 N1 N2 n k12 k22 k1_3 k1_4 j,ygF_m g0 g1 t1 t2 a1 a2 b1 b2 l1 c1 l2 c2 N1 N2 n k12 k22 k1_3 k1_4,c,ch⟩) 2000004:=by
  refine(Rn.old (ygu' (k_8:=(⟨hk,hN1,ht,hN2,hl1,hl2,hn,h0n⟩:ygA_c g0 g1 t1 t2 a1 a2 b1 b2 l1 c1 l2 c2 N1 N2 n))) j (by kernel_rfl)).mono ?_
  rintro e s ⟨rfl,_,⟨k12,k22,k1_3,k1_4,k_9,k_10,k_11,rfl⟩,j,c,ch,rfl⟩
  have⟨x_hk1,x_hk2⟩:=k_9
  have⟨x_hk3⟩:=k_10
  have⟨x_hk4⟩:=k_11
  exact⟨rfl,k12,k22,k1_3,k1_4,j,c,ch,x_hk1,x_hk2,x_hk3,x_hk4,by kernel_rfl⟩
def ybA_h (i:Nat):Hn:=⟨0,[],[],[],[]⟩
abbrev ybA_R (w:List Nat) (S:FS) (e:Exit) (K:FS→Prop):Prop:=Rn Tryd.prog (cAt w (bdy Tryd.f5)) S e K 2000004
structure ybA_c (g0 g1 t1 t2:Tq) (a1 a2:Array Value) (b1 b2:Option Addr) (l1 c1 l2 c2:Nat) (N1 N2:List Int) (z:Int):Prop where
  hk:BytesOk [(wA .u32 64 kL2,g0),(wA .u64 80 kL5,g1),(a1,t1),(a2,t2)] b1 l1 c1
  hN1:bytesOf [(wA .u32 64 kL2,g0),(wA .u64 80 kL5,g1),(a1,t1),(a2,t2)] b1 l1=N1
  ht:BytesOk [(wA .u32 64 kL2,g0),(wA .u64 80 kL5,g1),(a1,t1),(a2,t2)] b2 l2 c2
  hN2:bytesOf [(wA .u32 64 kL2,g0),(wA .u64 80 kL5,g1),(a1,t1),(a2,t2)] b2 l2=N2
variable {k_12:ybA_c g0 g1 t1 t2 a1 a2 b1 b2 l1 c1 l2 c2 N1 N2 z}
abbrev ybA (_:ybA_c g0 g1 t1 t2 a1 a2 b1 b2 l1 c1 l2 c2 N1 N2 z):FS:=⟨true,71,[(0,.slice b1 l1 c1),(1,.slice b2 l2 c2),(2,.int .i64 z)],[((wA .u32 64 kL2),g0),((wA .u64 80 kL5),g1),(a1,t1),(a2,t2)]⟩
abbrev ybB (_:ybA_c g0 g1 t1 t2 a1 a2 b1 b2 l1 c1 l2 c2 N1 N2 z):FS:=⟨false,71,[(0,.slice b1 l1 c1),(1,.slice b2 l2 c2),(2,.int .i64 z),(6,.bool false)],[((wA .u32 64 kL2),g0),((wA .u64 80 kL5),g1),(a1,t1),(a2,t2)]⟩
abbrev ybR (_:ybA_c g0 g1 t1 t2 a1 a2 b1 b2 l1 c1 l2 c2 N1 N2 z):FS:=⟨false,71,[(6,.bool true)],[((wA .u32 64 kL2),g0),((wA .u64 80 kL5),g1),(a1,t1),(a2,t2)]⟩
theorem yb0:ybA_R [0] (ybA k_12) .normal (fun z_=>z_=ybB k_12):=rn_ev (yty.enm tabM3 [mMask] 2000004) ybA_h mixed _ none [] [] 1 (fun j M=>by kernel_rfl) A0 rfl
theorem ybb0 (e1:2000<l1):ybA_R [1,0] (ybB k_12) .ret (fun z_=>z_=ybR k_12):=by
  have⟨hk,hN1,ht,hN2⟩:=id k_12
  exact rn_ev (yty.enm tabM3 [mMask] 2000004) ybA_h mixed _ none [some (.bool true)] [(5,(decide (2000<(l1:Int)))=true),(8,((wA .u32 64 kL2)=wA .u32 64 kL2∧(wA .u64 80 kL5)=wA .u64 80 kL5))] 1 (fun j M=>by kernel_rfl) (A1 (decide_eq_true (by omega)) (A1 ⟨rfl,rfl⟩ A0)) rfl
theorem ybx0' (e1:2000<l1):ybA_R [] (ybA k_12) .ret (fun z_=>z_=ybR k_12):=by
  refine rn_seq (w:= []) (by kernel_rfl) yb0 ?_
  rintro _ rfl
  exact rn_seqx (w:= [1]) (by kernel_rfl) ((ybb0 e1)) (by simp)
abbrev ybA_s (g0 g1 t1 t2:Tq) (a1 a2:Array Value) (b1 b2:Option Addr) (l1 c1 l2 c2:Nat) (N1 N2:List Int) (z:Int) (j:Nat→Value):List Value:=([.slice b1 l1 c1,.slice b2 l2 c2,.int .i64 z] ++ (JU 68))
abbrev ybA_m (g0 g1 t1 t2:Tq) (a1 a2:Array Value) (b1 b2:Option Addr) (l1 c1 l2 c2:Nat) (N1 N2:List Int) (z:Int):List Mb:= [((wA .u32 64 kL2),g0),((wA .u64 80 kL5),g1),(a1,t1),(a2,t2)]
abbrev ybR_s (g0 g1 t1 t2:Tq) (a1 a2:Array Value) (b1 b2:Option Addr) (l1 c1 l2 c2:Nat) (N1 N2:List Int) (z:Int) (j:Nat→Value):List Value:=(J j 0 6 ++ ([.bool true] ++ (J j 7 64)))
abbrev ybR_m (g0 g1 t1 t2:Tq) (a1 a2:Array Value) (b1 b2:Option Addr) (l1 c1 l2 c2:Nat) (N1 N2:List Int) (z:Int):List Mb:= [((wA .u32 64 kL2),g0),((wA .u64 80 kL5),g1),(a1,t1),(a2,t2)]
theorem ybx0 (g0 g1 t1 t2:Tq) (a1 a2:Array Value) (b1 b2:Option Addr) (l1 c1 l2 c2:Nat) (N1 N2:List Int) (z:Int) (j:Nat→Value) (hk:BytesOk [(wA .u32 64 kL2,g0),(wA .u64 80 kL5,g1),(a1,t1),(a2,t2)] b1 l1 c1) (hN1:bytesOf [(wA .u32 64 kL2,g0),(wA .u64 80 kL5,g1),(a1,t1),(a2,t2)] b1 l1=N1) (ht:BytesOk [(wA .u32 64 kL2,g0),(wA .u64 80 kL5,g1),(a1,t1),(a2,t2)] b2 l2 c2) (hN2:bytesOf [(wA .u32 64 kL2,g0),(wA .u64 80 kL5,g1),(a1,t1),(a2,t2)] b2 l2=N2) (e1:2000<l1) :Runs Tryd.prog (cAt [] (bdy Tryd.f5)) ⟨ybA_s g0 g1 t1 t2 a1 a2 b1 b2 l1 c1 l2 c2 N1 N2 z j,ybA_m g0 g1 t1 t2 a1 a2 b1 b2 l1 c1 l2 c2 N1 N2 z,c0,ch0⟩ (fun e s=>e= .ret∧∃j c ch,s=⟨ybR_s g0 g1 t1 t2 a1 a2 b1 b2 l1 c1 l2 c2 N1 N2 z j,ybR_m g0 g1 t1 t2 a1 a2 b1 b2 l1 c1 l2 c2 N1 N2 z,c,ch⟩) 2000004:=by
  refine(Rn.old (ybx0' (k_12:=(⟨hk,hN1,ht,hN2⟩:ybA_c g0 g1 t1 t2 a1 a2 b1 b2 l1 c1 l2 c2 N1 N2 z)) e1) j (by kernel_rfl)).mono ?_
  rintro e s ⟨rfl,_,rfl,j,c,ch,rfl⟩
  exact⟨rfl,j,c,ch,by kernel_rfl⟩
theorem ybb1 (e1:¬ 2000<l1) (e2:2000<l2):ybA_R [1,0] (ybB k_12) .ret (fun z_=>z_=ybR k_12):=by
  have⟨hk,hN1,ht,hN2⟩:=id k_12
  exact rn_ev (yty.enm tabM3 [mMask] 2000004) ybA_h mixed _ none [some (.bool false),some (.bool true)] [(5,(decide (2000<(l1:Int)))=false),(7,(decide (2000<(l2:Int)))=true),(6,((wA .u32 64 kL2)=wA .u32 64 kL2∧(wA .u64 80 kL5)=wA .u64 80 kL5))] 1 (fun j M=>by kernel_rfl) (A1 (decide_eq_false (by omega)) (A1 (decide_eq_true (by omega)) (A1 ⟨rfl,rfl⟩ A0))) rfl
theorem ybx1' (e1:¬ 2000<l1) (e2:2000<l2):ybA_R [] (ybA k_12) .ret (fun z_=>z_=ybR k_12):=by
  refine rn_seq (w:= []) (by kernel_rfl) yb0 ?_
  rintro _ rfl
  exact rn_seqx (w:= [1]) (by kernel_rfl) ((ybb1 e1 e2)) (by simp)
theorem ybx1 (g0 g1 t1 t2:Tq) (a1 a2:Array Value) (b1 b2:Option Addr) (l1 c1 l2 c2:Nat) (N1 N2:List Int) (z:Int) (j:Nat→Value) (hk:BytesOk [(wA .u32 64 kL2,g0),(wA .u64 80 kL5,g1),(a1,t1),(a2,t2)] b1 l1 c1) (hN1:bytesOf [(wA .u32 64 kL2,g0),(wA .u64 80 kL5,g1),(a1,t1),(a2,t2)] b1 l1=N1) (ht:BytesOk [(wA .u32 64 kL2,g0),(wA .u64 80 kL5,g1),(a1,t1),(a2,t2)] b2 l2 c2) (hN2:bytesOf [(wA .u32 64 kL2,g0),(wA .u64 80 kL5,g1),(a1,t1),(a2,t2)] b2 l2=N2) (e1:¬ 2000<l1) (e2:2000<l2) :Runs Tryd.prog (cAt [] (bdy Tryd.f5)) ⟨ybA_s g0 g1 t1 t2 a1 a2 b1 b2 l1 c1 l2 c2 N1 N2 z j,ybA_m g0 g1 t1 t2 a1 a2 b1 b2 l1 c1 l2 c2 N1 N2 z,c0,ch0⟩ (fun e s=>e= .ret∧∃j c ch,s=⟨ybR_s g0 g1 t1 t2 a1 a2 b1 b2 l1 c1 l2 c2 N1 N2 z j,ybR_m g0 g1 t1 t2 a1 a2 b1 b2 l1 c1 l2 c2 N1 N2 z,c,ch⟩) 2000004:=by
  refine(Rn.old (ybx1' (k_12:=(⟨hk,hN1,ht,hN2⟩:ybA_c g0 g1 t1 t2 a1 a2 b1 b2 l1 c1 l2 c2 N1 N2 z)) e1 e2) j (by kernel_rfl)).mono ?_
  rintro e s ⟨rfl,_,rfl,j,c,ch,rfl⟩
  exact⟨rfl,j,c,ch,by kernel_rfl⟩
theorem ybb2 (e1:¬ 2000<l1) (e2:¬ 2000<l2) (e3:500<z∧z≤8160):ybA_R [1,0] (ybB k_12) .ret (fun z_=>z_=ybR k_12):=by
  have⟨hk,hN1,ht,hN2⟩:=id k_12
  exact rn_ev (yty.enm tabM3 [mMask] 2000004) ybA_h mixed _ none [some (.bool false),some (.bool false),some (.bool true),some (.bool true)] [(5,(decide (2000<(l1:Int)))=false),(7,(decide (2000<(l2:Int)))=false),(7,(decide (500<z))=true),(5,(decide (z≤8160))=true),(4,((wA .u32 64 kL2)=wA .u32 64 kL2∧(wA .u64 80 kL5)=wA .u64 80 kL5))] 1 (fun j M=>by kernel_rfl) (A1 (decide_eq_false (by omega)) (A1 (decide_eq_false (by omega)) (A1 (decide_eq_true (by omega)) (A1 (decide_eq_true (by omega)) (A1 ⟨rfl,rfl⟩ A0))))) rfl
theorem ybx2' (e1:¬ 2000<l1) (e2:¬ 2000<l2) (e3:500<z∧z≤8160):ybA_R [] (ybA k_12) .ret (fun z_=>z_=ybR k_12):=by
  refine rn_seq (w:= []) (by kernel_rfl) yb0 ?_
  rintro _ rfl
  exact rn_seqx (w:= [1]) (by kernel_rfl) ((ybb2 e1 e2 e3)) (by simp)
theorem ybx2 (g0 g1 t1 t2:Tq) (a1 a2:Array Value) (b1 b2:Option Addr) (l1 c1 l2 c2:Nat) (N1 N2:List Int) (z:Int) (j:Nat→Value) (hk:BytesOk [(wA .u32 64 kL2,g0),(wA .u64 80 kL5,g1),(a1,t1),(a2,t2)] b1 l1 c1) (hN1:bytesOf [(wA .u32 64 kL2,g0),(wA .u64 80 kL5,g1),(a1,t1),(a2,t2)] b1 l1=N1) (ht:BytesOk [(wA .u32 64 kL2,g0),(wA .u64 80 kL5,g1),(a1,t1),(a2,t2)] b2 l2 c2) (hN2:bytesOf [(wA .u32 64 kL2,g0),(wA .u64 80 kL5,g1),(a1,t1),(a2,t2)] b2 l2=N2) (e1:¬ 2000<l1) (e2:¬ 2000<l2) (e3:500<z∧z≤8160) :Runs Tryd.prog (cAt [] (bdy Tryd.f5)) ⟨ybA_s g0 g1 t1 t2 a1 a2 b1 b2 l1 c1 l2 c2 N1 N2 z j,ybA_m g0 g1 t1 t2 a1 a2 b1 b2 l1 c1 l2 c2 N1 N2 z,c0,ch0⟩ (fun e s=>e= .ret∧∃j c ch,s=⟨ybR_s g0 g1 t1 t2 a1 a2 b1 b2 l1 c1 l2 c2 N1 N2 z j,ybR_m g0 g1 t1 t2 a1 a2 b1 b2 l1 c1 l2 c2 N1 N2 z,c,ch⟩) 2000004:=by
  refine(Rn.old (ybx2' (k_12:=(⟨hk,hN1,ht,hN2⟩:ybA_c g0 g1 t1 t2 a1 a2 b1 b2 l1 c1 l2 c2 N1 N2 z)) e1 e2 e3) j (by kernel_rfl)).mono ?_
  rintro e s ⟨rfl,_,rfl,j,c,ch,rfl⟩
  exact⟨rfl,j,c,ch,by kernel_rfl⟩
theorem Expands_c (g0 g1 t1 t2:Tq) (a1 a2:Array Value) (b1 b2:Option Addr) (l1 c1 l2 c2:Nat) (z:Int) (hk:BytesOk [(wA .u32 64 kL2,g0),(wA .u64 80 kL5,g1),(a1,t1),(a2,t2)] b1 l1 c1) (ht:BytesOk [(wA .u32 64 kL2,g0),(wA .u64 80 kL5,g1),(a1,t1),(a2,t2)] b2 l2 c2):Reads Tryd.prog 5 [(wA .u32 64 kL2,g0),(wA .u64 80 kL5,g1),(a1,t1),(a2,t2)] [.slice b1 l1 c1,.slice b2 l2 c2,.int .i64 z] (.bool true) 2:=by
  generalize h1:bytesOf [(wA .u32 64 kL2,g0),(wA .u64 80 kL5,g1),(a1,t1),(a2,t2)] b1 l1=N1
  generalize h2:bytesOf [(wA .u32 64 kL2,g0),(wA .u64 80 kL5,g1),(a1,t1),(a2,t2)] b2 l2=N2
  by_cases e1:2000<l1
  ·
    refine reads_runs (fk:=2000004) (yty.enm tabM3 [mMask] 2000004) Tryd.func5 (c:=bdy Tryd.f5) (by kernel_rfl) ⟨len4 _ _ _ _,by decide⟩ (args:= [.slice b1 l1 c1,.slice b2 l2 c2,.int .i64 z]) (by show(Go.Ev.okp 4 (.slice b1 l1 c1) && (Go.Ev.okp 4 (.slice b2 l2 c2) && (Go.Ev.okp 4 (.int .i64 z) && true)))=true;rw[show Go.Ev.okp 4 (.slice b1 l1 c1)=true from hk.okp,show Go.Ev.okp 4 (.slice b2 l2 c2)=true from ht.okp];rfl) (K:=fun e s=>e= .ret∧resS (yty.enm tabM3 [mMask] 2000004) s Tryd.f5.results.toList=some [.bool true]) ?_ (fun e s h=>⟨h.1,_,h.2,rfl⟩)
    refine(ybx0 g0 g1 t1 t2 a1 a2 b1 b2 l1 c1 l2 c2 N1 N2 z (fun _=>undef) hk h1 ht h2 e1).mono ?_
    rintro e s ⟨rfl,j,c,ch,rfl⟩
    exact⟨rfl,by kernel_rfl⟩
  by_cases e2:2000<l2
  ·
    refine reads_runs (fk:=2000004) (yty.enm tabM3 [mMask] 2000004) Tryd.func5 (c:=bdy Tryd.f5) (by kernel_rfl) ⟨len4 _ _ _ _,by decide⟩ (args:= [.slice b1 l1 c1,.slice b2 l2 c2,.int .i64 z]) (by show(Go.Ev.okp 4 (.slice b1 l1 c1) && (Go.Ev.okp 4 (.slice b2 l2 c2) && (Go.Ev.okp 4 (.int .i64 z) && true)))=true;rw[show Go.Ev.okp 4 (.slice b1 l1 c1)=true from hk.okp,show Go.Ev.okp 4 (.slice b2 l2 c2)=true from ht.okp];rfl) (K:=fun e s=>e= .ret∧resS (yty.enm tabM3 [mMask] 2000004) s Tryd.f5.results.toList=some [.bool true]) ?_ (fun e s h=>⟨h.1,_,h.2,rfl⟩)
    refine(ybx1 g0 g1 t1 t2 a1 a2 b1 b2 l1 c1 l2 c2 N1 N2 z (fun _=>undef) hk h1 ht h2 e1 e2).mono ?_
    rintro e s ⟨rfl,j,c,ch,rfl⟩
    exact⟨rfl,by kernel_rfl⟩
  by_cases e3:500<z∧z≤8160
  ·
    refine reads_runs (fk:=2000004) (yty.enm tabM3 [mMask] 2000004) Tryd.func5 (c:=bdy Tryd.f5) (by kernel_rfl) ⟨len4 _ _ _ _,by decide⟩ (args:= [.slice b1 l1 c1,.slice b2 l2 c2,.int .i64 z]) (by show(Go.Ev.okp 4 (.slice b1 l1 c1) && (Go.Ev.okp 4 (.slice b2 l2 c2) && (Go.Ev.okp 4 (.int .i64 z) && true)))=true;rw[show Go.Ev.okp 4 (.slice b1 l1 c1)=true from hk.okp,show Go.Ev.okp 4 (.slice b2 l2 c2)=true from ht.okp];rfl) (K:=fun e s=>e= .ret∧resS (yty.enm tabM3 [mMask] 2000004) s Tryd.f5.results.toList=some [.bool true]) ?_ (fun e s h=>⟨h.1,_,h.2,rfl⟩)
    refine(ybx2 g0 g1 t1 t2 a1 a2 b1 b2 l1 c1 l2 c2 N1 N2 z (fun _=>undef) hk h1 ht h2 e1 e2 e3).mono ?_
    rintro e s ⟨rfl,j,c,ch,rfl⟩
    exact⟨rfl,by kernel_rfl⟩
  by_cases e4:z<0
  ·
    refine reads_runs (fk:=2000004) (yty.enm (prfem :: prfdm :: tabM6) [mMask] 2000004) Tryd.func5 (c:=bdy Tryd.f5) (by kernel_rfl) ⟨len4 _ _ _ _,by decide⟩ (args:= [.slice b1 l1 c1,.slice b2 l2 c2,.int .i64 z]) (by show(Go.Ev.okp 4 (.slice b1 l1 c1) && (Go.Ev.okp 4 (.slice b2 l2 c2) && (Go.Ev.okp 4 (.int .i64 z) && true)))=true;rw[show Go.Ev.okp 4 (.slice b1 l1 c1)=true from hk.okp,show Go.Ev.okp 4 (.slice b2 l2 c2)=true from ht.okp];rfl) (K:=fun e s=>e= .ret∧resS (yty.enm (prfem :: prfdm :: tabM6) [mMask] 2000004) s Tryd.f5.results.toList=some [.bool true]) ?_ (fun e s h=>⟨h.1,_,h.2,rfl⟩)
    refine(yvu g0 g1 t1 t2 a1 a2 b1 b2 l1 c1 l2 c2 N1 N2 z (fun _=>undef) hk h1 ht h2 (by omega) (by omega) e4).mono ?_
    rintro e s ⟨rfl,k1,k2,j,c,ch,_,_,rfl⟩
    exact⟨rfl,by kernel_rfl⟩
  by_cases e5:8160<z
  ·
    refine reads_runs (fk:=2000004) (yty.enm (prfep :: prfdp :: tabM6) [mMask] 2000004) Tryd.func5 (c:=bdy Tryd.f5) (by kernel_rfl) ⟨len4 _ _ _ _,by decide⟩ (args:= [.slice b1 l1 c1,.slice b2 l2 c2,.int .i64 z]) (by show(Go.Ev.okp 4 (.slice b1 l1 c1) && (Go.Ev.okp 4 (.slice b2 l2 c2) && (Go.Ev.okp 4 (.int .i64 z) && true)))=true;rw[show Go.Ev.okp 4 (.slice b1 l1 c1)=true from hk.okp,show Go.Ev.okp 4 (.slice b2 l2 c2)=true from ht.okp];rfl) (K:=fun e s=>e= .ret∧resS (yty.enm (prfep :: prfdp :: tabM6) [mMask] 2000004) s Tryd.f5.results.toList=some [.bool true]) ?_ (fun e s h=>⟨h.1,_,h.2,rfl⟩)
    refine(ywu g0 g1 t1 t2 a1 a2 b1 b2 l1 c1 l2 c2 N1 N2 z (fun _=>undef) hk h1 ht h2 (by omega) (by omega) e5).mono ?_
    rintro e s ⟨rfl,k1,k2,j,c,ch,_,_,rfl⟩
    exact⟨rfl,by kernel_rfl⟩
  by_cases e6:z=0
  · subst e6
    refine reads_runs (fk:=2000004) (yty.enm (prfd0 :: tabM6) [mMask] 2000004) Tryd.func5 (c:=bdy Tryd.f5) (by kernel_rfl) ⟨len4 _ _ _ _,by decide⟩ (args:= [.slice b1 l1 c1,.slice b2 l2 c2,.int .i64 0]) (by show(Go.Ev.okp 4 (.slice b1 l1 c1) && (Go.Ev.okp 4 (.slice b2 l2 c2) && (Go.Ev.okp 4 (.int .i64 0) && true)))=true;rw[show Go.Ev.okp 4 (.slice b1 l1 c1)=true from hk.okp,show Go.Ev.okp 4 (.slice b2 l2 c2)=true from ht.okp];rfl) (K:=fun e s=>e= .ret∧resS (yty.enm (prfd0 :: tabM6) [mMask] 2000004) s Tryd.f5.results.toList=some [.bool true]) ?_ (fun e s h=>⟨h.1,_,h.2,rfl⟩)
    refine(yzu g0 g1 t1 t2 a1 a2 b1 b2 l1 c1 l2 c2 N1 N2 (fun _=>undef) hk h1 ht h2 (by omega) (by omega)).mono ?_
    rintro e s ⟨rfl,k1,k2,k3,j,c,ch,_,_,_,rfl⟩
    exact⟨rfl,by kernel_rfl⟩
  · obtain ⟨n, rfl⟩ : ∃ n : Nat, z = (n:Int) := ⟨z.toNat, by omega⟩
    refine reads_runs (fk:=2000004) (yty.enm tabM6 [mMask] 2000004) Tryd.func5 (c:=bdy Tryd.f5) (by kernel_rfl) ⟨len4 _ _ _ _,by decide⟩ (args:= [.slice b1 l1 c1,.slice b2 l2 c2,.int .i64 (n:Int)]) (by show(Go.Ev.okp 4 (.slice b1 l1 c1) && (Go.Ev.okp 4 (.slice b2 l2 c2) && (Go.Ev.okp 4 (.int .i64 (n:Int)) && true)))=true;rw[show Go.Ev.okp 4 (.slice b1 l1 c1)=true from hk.okp,show Go.Ev.okp 4 (.slice b2 l2 c2)=true from ht.okp];rfl) (K:=fun e s=>e= .ret∧resS (yty.enm tabM6 [mMask] 2000004) s Tryd.f5.results.toList=some [.bool true]) ?_ (fun e s h=>⟨h.1,_,h.2,rfl⟩)
    refine(ygu g0 g1 t1 t2 a1 a2 b1 b2 l1 c1 l2 c2 N1 N2 n (fun _=>undef) hk h1 ht h2 (by omega) (by omega) (by omega) (by omega)).mono ?_
    rintro e s ⟨rfl,k1,k2,k3,k4,j,c,ch,_,_,_,_,rfl⟩
    exact⟨rfl,by kernel_rfl⟩
end Go.Proofs.YtcfnjcacdmkgbaaDoor
