import Derived.Test.YtcfnjcacdmkgbaaDoorZMEndsSdA1
import Derived.Test.YtcfnjcacdmkgbaaDoorZMEndsSdM1
set_option linter.unusedSimpArgs false
set_option linter.unusedVariables false
/-! The document's SHA-2: a text filled up. -/
namespace Go.Proofs.YtcfnjcacdmkgbaaDoor
open Go.RowKit Go.Ev
variable {c0:Prop} {ch0:List (Option Value)}
def beL (n:Nat):Nat→List Int
  |0=> []
  |k+1=>((n / 256 ^ k%256:Nat):Int) :: beL n k
theorem beL_len (n:Nat):∀ k,(beL n k).length=k
  |0=>rfl
  |k+1=>by rw[beL,List.length_cons,beL_len n k]
theorem SrcOk.app {q:IntKind} {mem x:List Mb} {u:Value} {N:List Int} (h:SrcOk q mem u N):SrcOk q (mem ++ x) u N:=by
  rcases h.h with h|⟨j,p,c,src,st,h1,h2,h3⟩
  · exact⟨.inl h⟩
  · exact⟨.inr ⟨j,p,c,src,st,h1,by rw[List.getElem?_append_left (List.getElem?_eq_some_iff.1 h2).1];exact h2,h3⟩⟩
theorem rep_cat {X N:List Int} {k:Nat} (h:X=N ++ [128] ++ List.replicate k 0):X ++ [0]=N ++ [128] ++ List.replicate (k+1) 0:=by
  rw[h,List.append_assoc,List.replicate_succ']
def fs2A_h (i:Nat):Hn:=if i=4 then⟨10,[],[],[],[]⟩ else⟨0,[],[],[],[]⟩
abbrev fs2A_R (w:List Nat) (S:FS) (e:Exit) (K:FS→Prop):Prop:=Rn Tryd.prog (cAt w (bdy Tryd.f47)) S e K 1
structure fs2A_c (a:Array Value) (t:Tq) (o l cp:Nat) (N:List Int):Prop where
  hu:SrcOk .u8 [(a,t)] (.slice (some ⟨0,o,none⟩) l cp) N
  hN:N.length=l
  hl:l≤1000000000
variable {a:Array Value} {t:Tq} {o l cp:Nat} {N:List Int} {k_1:fs2A_c a t o l cp N}
abbrev fs2A (_:fs2A_c a t o l cp N):FS:=⟨true,54,[(0,.agg (wA .i64 14 [32,64,2,13,22,6,11,25,7,18,3,17,19,10])),(1,.slice (some ⟨0,o,none⟩) l cp)],[(a,t)]⟩
abbrev fs2B (_:fs2A_c a t o l cp N):FS:=⟨false,54,[(1,.slice (some ⟨0,o,none⟩) l cp),(2,.pointer (some ⟨1,0,none⟩))],[(a,t),((wA .i64 14 [32,64,2,13,22,6,11,25,7,18,3,17,19,10]),(50,(0,0)))]⟩
theorem fs20:fs2A_R [0] (fs2A k_1) .normal (fun z_=>z_=fs2B k_1):=rn_ev (yty.enf tab0 1) fs2A_h mixed _ none [] [] 1 (fun j M=>by kernel_rfl) A0 rfl
abbrev fs2C (_:fs2A_c a t o l cp N):FS:=⟨false,54,[(1,.slice (some ⟨0,o,none⟩) l cp),(2,.pointer (some ⟨1,0,none⟩)),(5,.int .i64 64)],[(a,t),((wA .i64 14 [32,64,2,13,22,6,11,25,7,18,3,17,19,10]),(50,(0,0)))]⟩
theorem fs21:fs2A_R [1,0] (fs2B k_1) .normal (fun z_=>z_=fs2C k_1):=rn_ev (yty.enf tab0 1) fs2A_h mixed _ none [] [] 4 (fun j M=>by kernel_rfl) A0 rfl
structure fs2D_c (_:fs2A_c a t o l cp N) (cap:Nat):Prop where
  hc:l≤cap
variable {cap:Nat} {k_2:fs2D_c k_1 cap}
abbrev fs2D (_:fs2D_c k_1 cap):FS:=⟨false,54,[(1,.slice (some ⟨0,o,none⟩) l cp),(2,.pointer (some ⟨1,0,none⟩)),(5,.int .i64 64),(6,.slice (some ⟨2,0,none⟩) l cap)],[(a,t),((wA .i64 14 [32,64,2,13,22,6,11,25,7,18,3,17,19,10]),(50,(0,0))),((wA .u8 cap N),(5,(0,0)))]⟩
theorem fs22:fs2A_R [1,1,0] (fs2C k_1) .normal (fun z_=>∃(cap:Nat) (k_2:fs2D_c k_1 cap),z_=fs2D k_2):=by
  have⟨hu,hN,hl⟩:=id k_1
  refine rn_reg none (by kernel_rfl) fun j c0 ch0=> ?_
  refine rl_app (yty.enf tab0 1) apB apB.ht 2 [] [] 1 [(a,t),((wA .i64 14 [32,64,2,13,22,6,11,25,7,18,3,17,19,10]),(50,(0,0))),((wA .u8 0 []),(5,(0,0)))] 2 0 0 ([]:List Int) N (.slice (some ⟨0,o,none⟩) l cp) (some 15) (by kernel_rfl) A0 rfl (by simp) (SrcOk.app (x:= [_,_]) hu) (by simp only[List.length_nil];omega) fun n1 k1 M1 c1_ e1_ hn1 hk1=> ?_
  try simp only[zL] at hn1
  obtain rfl:n1=l:=by omega
  exact rl_end (E:=(yty.enf tab0 1)) _ [] [] 1 (fun M=>by kernel_rfl) A0 ⟨k1,⟨by omega⟩,rfl⟩
structure fs2L_c (_:fs2A_c a t o l cp N) (Z k n cap:Nat) (X:List Int):Prop where
  hX:X=N ++ [128] ++ List.replicate k 0
  hXl:X.length=n
  hn:n=l+1+k
  hc:n≤cap
  hZ:Z=(120 - (l+1)%64)%64
  hk:k≤Z
variable {Z k n:Nat} {X:List Int} {k_3:fs2L_c k_1 Z k n cap X}
abbrev fs2L (_:fs2L_c k_1 Z k n cap X):FS:=⟨false,54,[(1,.slice (some ⟨0,o,none⟩) l cp),(2,.pointer (some ⟨1,0,none⟩)),(5,.int .i64 64),(6,.slice (some ⟨2,0,none⟩) n cap)],[(a,t),((wA .i64 14 [32,64,2,13,22,6,11,25,7,18,3,17,19,10]),(50,(0,0))),((wA .u8 cap X),(5,(0,0)))]⟩
theorem fs23:fs2A_R [1,1,1,0] (fs2D k_2) .normal (fun z_=>∃(k1:Nat) (k_3:fs2L_c k_1 ((120 - (l+1)%64)%64) 0 (l+1) k1 (N ++ [128])),z_=fs2L k_3):=by
  have⟨hu,hN,hl⟩:=id k_1
  have⟨hc⟩:=id k_2
  refine rn_reg (some (false,3)) (by kernel_rfl) fun j c0 ch0=> ?_
  refine rl_app (yty.enf tab0 1) apB apB.ht 2 [] [] 1 [(a,t),((wA .i64 14 [32,64,2,13,22,6,11,25,7,18,3,17,19,10]),(50,(0,0))),((wA .u8 cap N),(5,(0,0))),((wA .u8 1 [128]),(5,(0,0)))] 2 l cap N ([128]:List Int) (.slice (some ⟨3,0,none⟩) 1 1) (some 18) (by kernel_rfl) A0 (by omega) (by omega) (src_wA (i:=3) rfl rfl (by decide)) (by simp only[List.length_cons,List.length_nil];omega) fun n1 k1 M1 c1_ e1_ hn1 hk1=> ?_
  try simp only[zL] at hn1
  obtain rfl:n1=l+1:=by omega
  exact rl_end (E:=(yty.enf tab0 1)) _ [] [] 1 (fun M=>by kernel_rfl) A0 ⟨k1,⟨by simp,by simp only[List.length_append,List.length_cons,List.length_nil];omega,rfl,by omega,rfl,Nat.zero_le _⟩,rfl⟩
theorem fs24 (hlt:k<Z):fs2A_R [1,1,1,1,0,0,0,0] (fs2L k_3) .normal (fun z_=>z_=fs2L k_3):=by
  have⟨hu,hN,hl⟩:=id k_1
  have⟨hX,hXl,hn,hc,hZ,hk⟩:=id k_3
  exact rn_ev (yty.enf tab0 1) fs2A_h mixed _ none [some (.int .i64 ((n%64:Nat):Int)),none,none,none,some (.bool true)] [(6,(((64:Int)≠0)∧(Int.tmod (n:Int) 64)=((n%64:Nat):Int))),(6,((4:Int)≠0)),(3,(!decide (((n%64:Nat):Int)=56))=true)] 0 (fun j M=>by kernel_rfl) (A1 ⟨(by decide),(by exact tmodN n 64)⟩ (A1 (by decide) (A1 (neT (by omega)) A0))) rfl
structure fs2M_c (_:fs2A_c a t o l cp N) (Z k n cap:Nat) (X:List Int):Prop where
  hX:X=N ++ [128] ++ List.replicate k 0
  hXl:X.length=n
  hn:n=l+1+k
  hc:n≤cap
  hZ:Z=(120 - (l+1)%64)%64
  hk:k=Z
variable {k_4:fs2M_c k_1 Z k n cap X}
abbrev fs2M (_:fs2M_c k_1 Z k n cap X):FS:=⟨false,54,[(1,.slice (some ⟨0,o,none⟩) l cp),(2,.pointer (some ⟨1,0,none⟩)),(5,.int .i64 64),(6,.slice (some ⟨2,0,none⟩) n cap)],[(a,t),((wA .i64 14 [32,64,2,13,22,6,11,25,7,18,3,17,19,10]),(50,(0,0))),((wA .u8 cap X),(5,(0,0)))]⟩
theorem fs25 (hge:¬ k<Z):fs2A_R [1,1,1,1,0,0,0,0] (fs2L k_3) (.exit 0) (fun z_=>∃(k_4:fs2M_c k_1 Z k n cap X),z_=fs2M k_4):=by
  have⟨hu,hN,hl⟩:=id k_1
  have⟨hX,hXl,hn,hc,hZ,hk⟩:=id k_3
  exact rn_ev (yty.enf tab0 1) fs2A_h mixed _ none [some (.int .i64 ((n%64:Nat):Int)),none,none,none,some (.bool false)] [(6,(((64:Int)≠0)∧(Int.tmod (n:Int) 64)=((n%64:Nat):Int))),(6,((4:Int)≠0)),(3,(!decide (((n%64:Nat):Int)=56))=false)] 0 (fun j M=>by kernel_rfl) (A1 ⟨(by decide),(by exact tmodN n 64)⟩ (A1 (by decide) (A1 (neF (by omega)) A0))) ⟨⟨hX,hXl,hn,hc,hZ,by omega⟩,rfl⟩
theorem fs26 (hlt:k<Z):fs2A_R [1,1,1,1,0,0,0,1,0] (fs2L k_3) .normal (fun z_=>∃(k1:Nat) (k_3:fs2L_c k_1 Z (k+1) (n+1) k1 (X ++ [0])),z_=fs2L k_3):=by
  have⟨hu,hN,hl⟩:=id k_1
  have⟨hX,hXl,hn,hc,hZ,hk⟩:=id k_3
  refine rn_reg (some (false,3)) (by kernel_rfl) fun j c0 ch0=> ?_
  refine rl_app (yty.enf tab0 1) apB apB.ht 2 [] [] 1 [(a,t),((wA .i64 14 [32,64,2,13,22,6,11,25,7,18,3,17,19,10]),(50,(0,0))),((wA .u8 cap X),(5,(0,0))),((wA .u8 1 [0]),(5,(0,0)))] 2 n cap X ([0]:List Int) (.slice (some ⟨3,0,none⟩) 1 1) (some 31) (by kernel_rfl) A0 (by omega) (by omega) (src_wA (i:=3) rfl rfl (by decide)) (by simp only[List.length_cons,List.length_nil];omega) fun n1 k1 M1 c1_ e1_ hn1 hk1=> ?_
  try simp only[zL] at hn1
  obtain rfl:n1=n+1:=by omega
  exact rl_end (E:=(yty.enf tab0 1)) _ [] [] 1 (fun M=>by kernel_rfl) A0 ⟨k1,⟨rep_cat hX,by simp only[List.length_append,List.length_cons,List.length_nil];omega,by omega,by omega,hZ,by omega⟩,rfl⟩
theorem fs29 (hlt:k<Z):fs2A_R [1,1,1,1,0,0,0,1] (fs2L k_3) .normal (fun z_=>∃(k1:Nat) (k_3:fs2L_c k_1 Z (k+1) (n+1) k1 (X ++ [0])),z_=fs2L k_3):=rn_block (k:=1) (w:= [1,1,1,1,0,0,0,1]) (by kernel_rfl) (fs26 hlt)
theorem fs27 (hlt:k<Z):fs2A_R [1,1,1,1,0,0,0] (fs2L k_3) .normal (fun z_=>∃(k11:Nat) (k_3:fs2L_c k_1 Z (k+1) (n+1) k11 (X ++ [0])),z_=fs2L k_3):=by
  refine rn_seq (w:= [1,1,1,1,0,0,0]) (by kernel_rfl) (fs24 hlt) ?_
  rintro _ rfl
  exact(fs29 hlt)
theorem fs28:fs2A_R [1,1,1,1,0] (fs2L k_3) .normal (fun z_=>∃(k n cap:Nat) (X:List Int) (k_4:fs2M_c k_1 Z k n cap X),z_=fs2M k_4):=by
  refine rn_loop (k:=0) (w:= [1,1,1,1,0]) (by kernel_rfl) (fun n_ z_=>∃(k n cap:Nat) (X:List Int) (k_3:fs2L_c k_1 Z k n cap X),n_=Z - k∧z_=fs2L k_3) _ ⟨_,_,_,_,k_3,rfl,rfl⟩ ?_
  rintro n_ _ ⟨k,n,cap,X,k_3,hn_,rfl⟩
  have⟨hu,hN,hl⟩:=k_1
  have⟨hX,hXl,hn,hc,hZ,hk⟩:=k_3
  by_cases hlt:k<Z
  · exact(fs27 hlt).x fun _ ⟨k11_,k_3,e_⟩=> .inl ⟨rfl,Z - (k+1),by omega,⟨_,_,_,_,k_3,rfl,e_⟩⟩
  · exact(rn_seqx (w:= [1,1,1,1,0,0,0]) (by kernel_rfl) (fs25 hlt) (by simp)).x fun _ ⟨k_4,e_⟩=> .inr ⟨rfl,⟨k,n,cap,X,k_4,e_⟩⟩
abbrev fs2G (_:fs2M_c k_1 Z k n cap X):FS:=⟨false,54,[(2,.pointer (some ⟨1,0,none⟩)),(6,.slice (some ⟨2,0,none⟩) n cap),(7,.int .u64 ((l*8:Nat):Int))],[(a,t),((wA .i64 14 [32,64,2,13,22,6,11,25,7,18,3,17,19,10]),(50,(0,0))),((wA .u8 cap X),(5,(0,0)))]⟩
theorem fs2a:fs2A_R [1,1,1,1,1,0] (fs2M k_4) .normal (fun z_=>z_=fs2G k_4):=by
  have⟨hu,hN,hl⟩:=id k_1
  have⟨hX,hXl,hn,hc,hZ,hk⟩:=id k_4
  exact rn_ev (yty.enf tab0 1) fs2A_h mixed _ none [some (.int .u64 (l:Int)),some (.int .u64 ((l*8:Nat):Int))] [(5,(IntKind.u64.wrap (l:Int))=(l:Int)),(1,(IntKind.u64.wrap ((l:Int)*8))=((l*8:Nat):Int))] 1 (fun j M=>by kernel_rfl) (A1 (wu64 (by omega)) (A1 (wu64 (by omega)) A0)) rfl
abbrev fs2H (_:fs2M_c k_1 Z k n cap X):FS:=⟨false,54,[(2,.pointer (some ⟨1,0,none⟩)),(6,.slice (some ⟨2,0,none⟩) n cap),(7,.int .u64 ((l*8:Nat):Int)),(8,.slice none 0 0)],[(a,t),((wA .i64 14 [32,64,2,13,22,6,11,25,7,18,3,17,19,10]),(50,(0,0))),((wA .u8 cap X),(5,(0,0)))]⟩
theorem fs2b:fs2A_R [1,1,1,1,1,1,0] (fs2G k_4) .normal (fun z_=>z_=fs2H k_4):=rn_ev (yty.enf tab0 1) fs2A_h mixed _ none [] [] 1 (fun j M=>by kernel_rfl) A0 rfl
abbrev fs2I (_:fs2M_c k_1 Z k n cap X):FS:=⟨false,54,[(2,.pointer (some ⟨1,0,none⟩)),(6,.slice (some ⟨2,0,none⟩) n cap),(7,.int .u64 ((l*8:Nat):Int)),(8,.slice none 0 0),(9,.int .i64 0)],[(a,t),((wA .i64 14 [32,64,2,13,22,6,11,25,7,18,3,17,19,10]),(50,(0,0))),((wA .u8 cap X),(5,(0,0)))]⟩
theorem fs2c:fs2A_R [1,1,1,1,1,1,1,0,0] (fs2H k_4) .normal (fun z_=>z_=fs2I k_4):=rn_ev (yty.enf tab0 1) fs2A_h mixed _ none [] [] 1 (fun j M=>by kernel_rfl) A0 rfl
structure fs2J_c (_:fs2M_c k_1 Z k n cap X) (i m c8:Nat) (Y:List Int):Prop where
  hY:Y=beL (l*8) i
  hYl:Y.length=i
  hi:1≤i∧i≤8
  hc8:i≤c8
  hm:m=(l*8) / 256 ^ i
  hmb:m≤8000000000
variable {i m c8:Nat} {Y:List Int} {k_5:fs2J_c k_4 i m c8 Y}
abbrev fs2J (_:fs2J_c k_4 i m c8 Y):FS:=⟨false,54,[(2,.pointer (some ⟨1,0,none⟩)),(6,.slice (some ⟨2,0,none⟩) n cap),(7,.int .u64 (m:Int)),(8,.slice (some ⟨3,0,none⟩) i c8),(9,.int .i64 (i:Int))],[(a,t),((wA .i64 14 [32,64,2,13,22,6,11,25,7,18,3,17,19,10]),(50,(0,0))),((wA .u8 cap X),(5,(0,0))),((wA .u8 c8 Y),(5,(0,0)))]⟩
structure fs2K_c (_:fs2M_c k_1 Z k n cap X) (i m c8:Nat) (Y:List Int):Prop where
  hY:Y=beL (l*8) (i+1)
  hYl:Y.length=i+1
  hi:i+1≤8
  hc8:i+1≤c8
  hm:m=(l*8) / 256 ^ i
  hmb:m≤8000000000
variable {k_6:fs2K_c k_4 i m c8 Y}
abbrev fs2K (_:fs2K_c k_4 i m c8 Y):FS:=⟨false,54,[(2,.pointer (some ⟨1,0,none⟩)),(6,.slice (some ⟨2,0,none⟩) n cap),(7,.int .u64 (m:Int)),(8,.slice (some ⟨3,0,none⟩) (i+1) c8),(9,.int .i64 (i:Int))],[(a,t),((wA .i64 14 [32,64,2,13,22,6,11,25,7,18,3,17,19,10]),(50,(0,0))),((wA .u8 cap X),(5,(0,0))),((wA .u8 c8 Y),(5,(0,0)))]⟩
structure fs2N_c (_:fs2M_c k_1 Z k n cap X) (i m c8:Nat) (Y:List Int):Prop where
  hY:Y=beL (l*8) (i+1)
  hYl:Y.length=i+1
  hi:i+1≤8
  hc8:i+1≤c8
  hm:m=(l*8) / 256 ^ (i+1)
  hmb:m≤8000000000
variable {k_7:fs2N_c k_4 i m c8 Y}
abbrev fs2N (_:fs2N_c k_4 i m c8 Y):FS:=⟨false,54,[(2,.pointer (some ⟨1,0,none⟩)),(6,.slice (some ⟨2,0,none⟩) n cap),(7,.int .u64 (m:Int)),(8,.slice (some ⟨3,0,none⟩) (i+1) c8),(9,.int .i64 (i:Int))],[(a,t),((wA .i64 14 [32,64,2,13,22,6,11,25,7,18,3,17,19,10]),(50,(0,0))),((wA .u8 cap X),(5,(0,0))),((wA .u8 c8 Y),(5,(0,0)))]⟩
theorem fs2d:fs2A_R [1,1,1,1,1,1,1,0,1,0,0,0] (fs2I k_4) .normal (fun z_=>z_=fs2I k_4):=by
  have⟨hu,hN,hl⟩:=id k_1
  have⟨hX,hXl,hn,hc,hZ,hk⟩:=id k_4
  exact rn_ev (yty.enf tab0 1) fs2A_h mixed _ none [none,none,some (.bool true)] [(6,((4:Int)≠0)),(1,true=true)] 0 (fun j M=>by kernel_rfl) (A1 (by decide) (A1 (by first|rfl|assumption) A0)) rfl
theorem fs2e (hlt:i<8):fs2A_R [1,1,1,1,1,1,1,0,1,0,0,0] (fs2J k_5) .normal (fun z_=>z_=fs2J k_5):=by
  have⟨hu,hN,hl⟩:=id k_1
  have⟨hX,hXl,hn,hc,hZ,hk⟩:=id k_4
  have⟨hY,hYl,hi,hc8,hm,hmb⟩:=id k_5
  exact rn_ev (yty.enf tab0 1) fs2A_h mixed _ none [none,none,some (.bool true)] [(6,((4:Int)≠0)),(1,(decide ((i:Int)<8))=true)] 0 (fun j M=>by kernel_rfl) (A1 (by decide) (A1 (decide_eq_true (by omega)) A0)) rfl
structure fs2P_c (_:fs2M_c k_1 Z k n cap X) (i m c8:Nat) (Y:List Int):Prop where
  hY:Y=beL (l*8) i
  hYl:Y.length=i
  hi:i=8
  hc8:i≤c8
  hm:m=(l*8) / 256 ^ i
  hmb:m≤8000000000
variable {k_8:fs2P_c k_4 i m c8 Y}
abbrev fs2P (_:fs2P_c k_4 i m c8 Y):FS:=⟨false,54,[(2,.pointer (some ⟨1,0,none⟩)),(6,.slice (some ⟨2,0,none⟩) n cap),(7,.int .u64 (m:Int)),(8,.slice (some ⟨3,0,none⟩) i c8),(9,.int .i64 (i:Int))],[(a,t),((wA .i64 14 [32,64,2,13,22,6,11,25,7,18,3,17,19,10]),(50,(0,0))),((wA .u8 cap X),(5,(0,0))),((wA .u8 c8 Y),(5,(0,0)))]⟩
theorem fs2f (hge:¬ i<8):fs2A_R [1,1,1,1,1,1,1,0,1,0,0,0] (fs2J k_5) (.exit 2) (fun z_=>∃(k_8:fs2P_c k_4 i m c8 Y),z_=fs2P k_8):=by
  have⟨hu,hN,hl⟩:=id k_1
  have⟨hX,hXl,hn,hc,hZ,hk⟩:=id k_4
  have⟨hY,hYl,hi,hc8,hm,hmb⟩:=id k_5
  exact rn_ev (yty.enf tab0 1) fs2A_h mixed _ none [none,none,some (.bool false)] [(6,((4:Int)≠0)),(1,(decide ((i:Int)<8))=false)] 0 (fun j M=>by kernel_rfl) (A1 (by decide) (A1 (decide_eq_false (by omega)) A0)) ⟨⟨hY,hYl,by omega,hc8,hm,hmb⟩,rfl⟩
theorem fs2g:fs2A_R [1,1,1,1,1,1,1,0,1,0,0,1,0,0,0] (fs2I k_4) .normal (fun z_=>∃(k1:Nat) (k_6:fs2K_c k_4 0 (l*8) k1 (([((l*8%256:Nat):Int)]:List Int) ++ [])),z_=fs2K k_6):=by
  have⟨hu,hN,hl⟩:=id k_1
  have⟨hX,hXl,hn,hc,hZ,hk⟩:=id k_4
  refine rn_reg none (by kernel_rfl) fun j c0 ch0=> ?_
  refine rl_app (yty.enf tab0 1) apB apB.ht 5 [some (.int .u64 (((l*8)%256:Nat):Int)),some (.int .u8 (((l*8)%256:Nat):Int))] [(2,(((256:Int)≠0)∧(Int.tmod ((l*8:Nat):Int) 256)=(((l*8)%256:Nat):Int))),(1,(IntKind.u8.wrap (((l*8)%256:Nat):Int))=(((l*8)%256:Nat):Int))] 1 [(a,t),((wA .i64 14 [32,64,2,13,22,6,11,25,7,18,3,17,19,10]),(50,(0,0))),((wA .u8 cap X),(5,(0,0))),((wA .u8 1 [(((l*8)%256:Nat):Int)]),(5,(0,0)))] 3 1 1 ([((l*8%256:Nat):Int)]:List Int) ([]:List Int) (.slice none 0 0) (some 48) (by kernel_rfl) (A1 ⟨(by decide),(by exact tmodN (l*8) 256)⟩ (A1 (wu8 (by omega)) A0)) rfl (by simp) src_nil (by simp) fun n1 k1 M1 c1_ e1_ hn1 hk1=> ?_
  try simp only[zL] at hn1
  obtain rfl:n1=1:=hn1
  exact rl_end (E:=(yty.enf tab0 1)) _ [] [] 1 (fun M=>by kernel_rfl) A0 ⟨k1,⟨by simp[beL],rfl,by omega,by omega,by simp,by omega⟩,rfl⟩
theorem fs2h (hlt:i<8):fs2A_R [1,1,1,1,1,1,1,0,1,0,0,1,0,0,0] (fs2J k_5) .normal (fun z_=>∃(k1:Nat) (k_6:fs2K_c k_4 i m k1 (([((m%256:Nat):Int)]:List Int) ++ Y)),z_=fs2K k_6):=by
  have⟨hu,hN,hl⟩:=id k_1
  have⟨hX,hXl,hn,hc,hZ,hk⟩:=id k_4
  have⟨hY,hYl,hi,hc8,hm,hmb⟩:=id k_5
  refine rn_reg (some (true,3)) (by kernel_rfl) fun j c0 ch0=> ?_
  refine rl_app (yty.enf tab0 1) apB apB.ht 5 [some (.int .u64 ((m%256:Nat):Int)),some (.int .u8 ((m%256:Nat):Int))] [(2,(((256:Int)≠0)∧(Int.tmod (m:Int) 256)=((m%256:Nat):Int))),(1,(IntKind.u8.wrap ((m%256:Nat):Int))=((m%256:Nat):Int))] 1 [(a,t),((wA .i64 14 [32,64,2,13,22,6,11,25,7,18,3,17,19,10]),(50,(0,0))),((wA .u8 cap X),(5,(0,0))),((wA .u8 c8 Y),(5,(0,0))),((wA .u8 1 [((m%256:Nat):Int)]),(5,(0,0)))] 4 1 1 ([((m%256:Nat):Int)]:List Int) Y (.slice (some ⟨3,0,none⟩) i c8) (some 48) (by kernel_rfl) (A1 ⟨(by decide),(by exact tmodN m 256)⟩ (A1 (wu8 (by omega)) A0)) rfl (by simp) (src_wA (i:=3) rfl hYl.symm (by omega)) (by simp only[List.length_cons,List.length_nil];omega) fun n1 k1 M1 c1_ e1_ hn1 hk1=> ?_
  try simp only[zL] at hn1
  obtain rfl:n1=i+1:=by omega
  exact rl_end (E:=(yty.enf tab0 1)) _ [] [] 1 (fun M=>by kernel_rfl) A0 ⟨k1,⟨by rw[hY,hm];rfl,by simp only[List.length_append,List.length_cons,List.length_nil];omega,by omega,by omega,hm,hmb⟩,rfl⟩
theorem fs2i:fs2A_R [1,1,1,1,1,1,1,0,1,0,0,1,0,0,1] (fs2K k_6) .normal (fun z_=>∃(k_7:fs2N_c k_4 i (m / 256) c8 Y),z_=fs2N k_7):=by
  have⟨hu,hN,hl⟩:=id k_1
  have⟨hX,hXl,hn,hc,hZ,hk⟩:=id k_4
  have⟨hY,hYl,hi,hc8,hm,hmb⟩:=id k_6
  exact rn_ev (yty.enf tab0 1) fs2A_h mixed _ none [some (.int .u64 ((m / 256:Nat):Int))] [(2,(((256:Int)≠0)∧(IntKind.u64.wrap (Int.tdiv (m:Int) 256))=((m / 256:Nat):Int)))] 1 (fun j M=>by kernel_rfl) (A1 ⟨(by decide),(by exact tdivN_u64 m 256 (by omega))⟩ A0) ⟨⟨hY,hYl,hi,hc8,by rw[hm,Nat.div_div_eq_div_mul,← Nat.pow_succ],by omega⟩,rfl⟩
theorem fs2j:fs2A_R [1,1,1,1,1,1,1,0,1,0,0,1,1] (fs2N k_7) .normal (fun z_=>∃(k_5:fs2J_c k_4 (i+1) m c8 Y),z_=fs2J k_5):=by
  have⟨hu,hN,hl⟩:=id k_1
  have⟨hX,hXl,hn,hc,hZ,hk⟩:=id k_4
  have⟨hY,hYl,hi,hc8,hm,hmb⟩:=id k_7
  exact rn_ev (yty.enf tab0 1) fs2A_h mixed _ none [some (.int .i64 ((i+1:Nat):Int))] [(3,(IntKind.i64.wrap ((i:Int)+1))=((i+1:Nat):Int))] 1 (fun j M=>by kernel_rfl) (A1 (wi64 (by omega)) A0) ⟨⟨hY,hYl,by omega,hc8,hm,hmb⟩,rfl⟩
theorem fs2l:fs2A_R [1,1,1,1,1,1,1,0,1,0,0,1,0,0] (fs2I k_4) .normal (fun z_=>∃(k10:Nat) (k_7:fs2N_c k_4 0 ((l*8) / 256) k10 (([((l*8%256:Nat):Int)]:List Int) ++ [])),z_=fs2N k_7):=by
  refine rn_seq (w:= [1,1,1,1,1,1,1,0,1,0,0,1,0,0]) (by kernel_rfl) fs2g ?_
  rintro _ ⟨k10,k_6,rfl⟩
  exact(fs2i).mono fun _ ⟨k_7,e_⟩=>⟨k10,k_7,e_⟩
theorem fs2k:fs2A_R [1,1,1,1,1,1,1,0,1,0,0,1,0] (fs2I k_4) .normal (fun z_=>∃(k10:Nat) (k_7:fs2N_c k_4 0 ((l*8) / 256) k10 (([((l*8%256:Nat):Int)]:List Int) ++ [])),z_=fs2N k_7):=rn_block (k:=3) (w:= [1,1,1,1,1,1,1,0,1,0,0,1,0]) (by kernel_rfl) fs2l
theorem fs2n (hlt:i<8):fs2A_R [1,1,1,1,1,1,1,0,1,0,0,1,0,0] (fs2J k_5) .normal (fun z_=>∃(k10:Nat) (k_7:fs2N_c k_4 i (m / 256) k10 (([((m%256:Nat):Int)]:List Int) ++ Y)),z_=fs2N k_7):=by
  refine rn_seq (w:= [1,1,1,1,1,1,1,0,1,0,0,1,0,0]) (by kernel_rfl) (fs2h hlt) ?_
  rintro _ ⟨k10,k_6,rfl⟩
  exact(fs2i).mono fun _ ⟨k_7,e_⟩=>⟨k10,k_7,e_⟩
theorem fs2m (hlt:i<8):fs2A_R [1,1,1,1,1,1,1,0,1,0,0,1,0] (fs2J k_5) .normal (fun z_=>∃(k10:Nat) (k_7:fs2N_c k_4 i (m / 256) k10 (([((m%256:Nat):Int)]:List Int) ++ Y)),z_=fs2N k_7):=rn_block (k:=3) (w:= [1,1,1,1,1,1,1,0,1,0,0,1,0]) (by kernel_rfl) (fs2n hlt)
theorem fs2o:fs2A_R [1,1,1,1,1,1,1,0,1,0,0] (fs2I k_4) .normal (fun z_=>∃(k101:Nat) (k_5:fs2J_c k_4 (0+1) ((l*8) / 256) k101 (([((l*8%256:Nat):Int)]:List Int) ++ [])),z_=fs2J k_5):=by
  refine rn_seq (w:= [1,1,1,1,1,1,1,0,1,0,0]) (by kernel_rfl) fs2d ?_
  rintro _ rfl
  refine rn_seq (w:= [1,1,1,1,1,1,1,0,1,0,0,1]) (by kernel_rfl) fs2k ?_
  rintro _ ⟨k101,k_7,rfl⟩
  exact(fs2j).mono fun _ ⟨k_5,e_⟩=>⟨k101,k_5,e_⟩
theorem fs2p (hlt:i<8):fs2A_R [1,1,1,1,1,1,1,0,1,0,0] (fs2J k_5) .normal (fun z_=>∃(k101:Nat) (k_5:fs2J_c k_4 (i+1) (m / 256) k101 (([((m%256:Nat):Int)]:List Int) ++ Y)),z_=fs2J k_5):=by
  refine rn_seq (w:= [1,1,1,1,1,1,1,0,1,0,0]) (by kernel_rfl) (fs2e hlt) ?_
  rintro _ rfl
  refine rn_seq (w:= [1,1,1,1,1,1,1,0,1,0,0,1]) (by kernel_rfl) (fs2m hlt) ?_
  rintro _ ⟨k101,k_7,rfl⟩
  exact(fs2j).mono fun _ ⟨k_5,e_⟩=>⟨k101,k_5,e_⟩
theorem fs2q:fs2A_R [1,1,1,1,1,1,1,0,1] (fs2I k_4) .normal (fun z_=>∃(i m c8:Nat) (Y:List Int) (k_8:fs2P_c k_4 i m c8 Y),z_=fs2P k_8):=by
  refine rn_loop (k:=2) (w:= [1,1,1,1,1,1,1,0,1]) (by kernel_rfl) (fun n_ z_=>(n_=8 - 0∧z_=fs2I k_4)∨∃(i m c8:Nat) (Y:List Int) (k_5:fs2J_c k_4 i m c8 Y),n_=8 - i∧z_=fs2J k_5) _ (.inl ⟨rfl,rfl⟩) ?_
  rintro n_ _ (⟨hn_,rfl⟩|⟨i,m,c8,Y,k_5,hn_,rfl⟩)
  · have ⟨hu, hN, hl⟩ := k_1
    have⟨hX,hXl,hn,hc,hZ,hk⟩:=k_4
    have hlt:0<8:=by omega
    exact fs2o.x fun _ ⟨k101_,k_5,e_⟩=> .inl ⟨rfl,8 - (0+1),by omega,.inr ⟨_,_,_,_,k_5,rfl,e_⟩⟩
  · have ⟨hu, hN, hl⟩ := k_1
    have⟨hX,hXl,hn,hc,hZ,hk⟩:=k_4
    have⟨hY,hYl,hi,hc8,hm,hmb⟩:=k_5
    by_cases hlt:i<8
    · exact(fs2p hlt).x fun _ ⟨k101_,k_5,e_⟩=> .inl ⟨rfl,8 - (i+1),by omega,.inr ⟨_,_,_,_,k_5,rfl,e_⟩⟩
    · exact(rn_seqx (w:= [1,1,1,1,1,1,1,0,1,0,0]) (by kernel_rfl) (fs2f hlt) (by simp)).x fun _ ⟨k_8,e_⟩=> .inr ⟨rfl,⟨i,m,c8,Y,k_8,e_⟩⟩
theorem fs2r:fs2A_R [1,1,1,1,1,1,1,0] (fs2H k_4) .normal (fun z_=>∃(i1 m1 c81:Nat) (Y1:List Int) (k_8:fs2P_c k_4 i1 m1 c81 Y1),z_=fs2P k_8):=by
  refine rn_seq (w:= [1,1,1,1,1,1,1,0]) (by kernel_rfl) fs2c ?_
  rintro _ rfl
  exact fs2q
structure fs2O_c (_:fs2P_c k_4 i m c8 Y) (n9 c9:Nat):Prop where
  hn9:n9=n+i
  hc9:n9≤c9
variable {n9 c9:Nat} {k_9:fs2O_c k_8 n9 c9}
abbrev fs2O (_:fs2O_c k_8 n9 c9):FS:=⟨false,54,[(4,.slice (some ⟨2,0,none⟩) n9 c9)],[(a,t),((wA .i64 14 [32,64,2,13,22,6,11,25,7,18,3,17,19,10]),(50,(0,0))),((wA .u8 c9 (X ++ Y)),(5,(0,0))),((wA .u8 c8 Y),(5,(0,0)))]⟩
theorem fs2s:fs2A_R [1,1,1,1,1,1,1,1,0] (fs2P k_8) .normal (fun z_=>∃(n1 k1:Nat) (k_9:fs2O_c k_8 n1 k1),z_=fs2O k_9):=by
  have⟨hu,hN,hl⟩:=id k_1
  have⟨hX,hXl,hn,hc,hZ,hk⟩:=id k_4
  have⟨hY,hYl,hi,hc8,hm,hmb⟩:=id k_8
  refine rn_reg none (by kernel_rfl) fun j c0 ch0=> ?_
  refine rl_app (yty.enf tab0 1) apB apB.ht 2 [] [] 2 [(a,t),((wA .i64 14 [32,64,2,13,22,6,11,25,7,18,3,17,19,10]),(50,(0,0))),((wA .u8 cap X),(5,(0,0))),((wA .u8 c8 Y),(5,(0,0)))] 2 n cap X Y (.slice (some ⟨3,0,none⟩) i c8) (some 53) (by kernel_rfl) A0 (by omega) (by omega) (src_wA (i:=3) rfl hYl.symm (by omega)) (by omega) fun n1 k1 M1 c1_ e1_ hn1 hk1=> ?_
  try simp only[zL] at hn1
  exact rl_end (E:=(yty.enf tab0 1)) _ [] [] 1 (fun M=>by kernel_rfl) A0 ⟨n1,k1,⟨by omega,by omega⟩,rfl⟩
theorem fs2t:fs2A_R [1,1,1,1,1,1,1,1,1] (fs2O k_9) .ret (fun z_=>z_=fs2O k_9):=rn_ev (yty.enf tab0 1) fs2A_h mixed _ none [] [] 0 (fun j M=>by kernel_rfl) A0 rfl
theorem fs2u':fs2A_R [] (fs2A k_1) .ret (fun z_=>∃(cap2 k13 k4 n4 cap4:Nat) (X4:List Int) (i17 m17 c817:Nat) (Y17:List Int) (n18 k18:Nat) (k_4:fs2M_c k_1 ((120 - (l+1)%64)%64) k4 n4 cap4 X4) (k_8:fs2P_c k_4 i17 m17 c817 Y17) (k_9:fs2O_c k_8 n18 k18),z_=fs2O k_9):=by
  refine rn_seq (w:= []) (by kernel_rfl) fs20 ?_
  rintro _ rfl
  refine rn_seq (w:= [1]) (by kernel_rfl) fs21 ?_
  rintro _ rfl
  refine rn_seq (w:= [1,1]) (by kernel_rfl) fs22 ?_
  rintro _ ⟨cap2,k_2,rfl⟩
  refine rn_seq (w:= [1,1,1]) (by kernel_rfl) fs23 ?_
  rintro _ ⟨k13,k_3,rfl⟩
  refine rn_seq (w:= [1,1,1,1]) (by kernel_rfl) fs28 ?_
  rintro _ ⟨k4,n4,cap4,X4,k_4,rfl⟩
  refine rn_seq (w:= [1,1,1,1,1]) (by kernel_rfl) fs2a ?_
  rintro _ rfl
  refine rn_seq (w:= [1,1,1,1,1,1]) (by kernel_rfl) fs2b ?_
  rintro _ rfl
  refine rn_seq (w:= [1,1,1,1,1,1,1]) (by kernel_rfl) fs2r ?_
  rintro _ ⟨i17,m17,c817,Y17,k_8,rfl⟩
  refine rn_seq (w:= [1,1,1,1,1,1,1,1]) (by kernel_rfl) fs2s ?_
  rintro _ ⟨n18,k18,k_9,rfl⟩
  exact(fs2t).mono fun _ e_=>⟨cap2,k13,k4,n4,cap4,X4,i17,m17,c817,Y17,n18,k18,k_4,k_8,k_9,e_⟩
abbrev fs2A_s (a:Array Value) (t:Tq) (o l cp:Nat) (N:List Int) (j:Nat→Value):List Value:=([.agg (wA .i64 14 [32,64,2,13,22,6,11,25,7,18,3,17,19,10]),.slice (some ⟨0,o,none⟩) l cp] ++ (JU 52))
abbrev fs2A_m (a:Array Value) (t:Tq) (o l cp:Nat) (N:List Int):List Mb:= [(a,t)]
abbrev fs2O_s (a:Array Value) (t:Tq) (o l cp:Nat) (N:List Int) (Z k n cap:Nat) (X:List Int) (i m c8:Nat) (Y:List Int) (n9 c9:Nat) (j:Nat→Value):List Value:=(J j 0 4 ++ ([.slice (some ⟨2,0,none⟩) n9 c9] ++ (J j 5 49)))
abbrev fs2O_m (a:Array Value) (t:Tq) (o l cp:Nat) (N:List Int) (Z k n cap:Nat) (X:List Int) (i m c8:Nat) (Y:List Int) (n9 c9:Nat):List Mb:= [(a,t),((wA .i64 14 [32,64,2,13,22,6,11,25,7,18,3,17,19,10]),(50,(0,0))),((wA .u8 c9 (X ++ Y)),(5,(0,0))),((wA .u8 c8 Y),(5,(0,0)))]
theorem fs2u (a:Array Value) (t:Tq) (o l cp:Nat) (N:List Int) (j:Nat→Value) (hu:SrcOk .u8 [(a,t)] (.slice (some ⟨0,o,none⟩) l cp) N) (hN:N.length=l) (hl:l≤1000000000)  :Runs Tryd.prog (cAt [] (bdy Tryd.f47)) ⟨fs2A_s a t o l cp N j,fs2A_m a t o l cp N,c0,ch0⟩ (fun e s=>e= .ret∧∃(cap2:Nat) (k13:Nat) (k4:Nat) (n4:Nat) (cap4:Nat) (X4:List Int) (i17:Nat) (m17:Nat) (c817:Nat) (Y17:List Int) (n18:Nat) (k18:Nat),∃j c ch,(X4=N ++ [128] ++ List.replicate k4 0)∧(X4.length=n4)∧(n4=l+1+k4)∧(n4≤cap4)∧(((120 - (l+1)%64)%64)=(120 - (l+1)%64)%64)∧(k4=((120 - (l+1)%64)%64))∧(Y17=beL (l*8) i17)∧(Y17.length=i17)∧(i17=8)∧(i17≤c817)∧(m17=(l*8) / 256 ^ i17)∧(m17≤8000000000)∧(n18=n4+i17)∧(n18≤k18)∧s=⟨fs2O_s a t o l cp N ((120 - (l+1)%64)%64) k4 n4 cap4 X4 i17 m17 c817 Y17 n18 k18 j,fs2O_m a t o l cp N ((120 - (l+1)%64)%64) k4 n4 cap4 X4 i17 m17 c817 Y17 n18 k18,c,ch⟩) 1:=by
  refine(Rn.old (fs2u' (k_1:=(⟨hu,hN,hl⟩:fs2A_c a t o l cp N))) j (by kernel_rfl)).mono ?_
  rintro e s ⟨rfl,_,⟨cap2,k13,k4,n4,cap4,X4,i17,m17,c817,Y17,n18,k18,k_4,k_8,k_9,rfl⟩,j,c,ch,rfl⟩
  have⟨x_hX,x_hXl,x_hn,x_hc,x_hZ,x_hk⟩:=k_4
  have⟨x_hY,x_hYl,x_hi,x_hc8,x_hm,x_hmb⟩:=k_8
  have⟨x_hn9,x_hc9⟩:=k_9
  exact⟨rfl,cap2,k13,k4,n4,cap4,X4,i17,m17,c817,Y17,n18,k18,j,c,ch,x_hX,x_hXl,x_hn,x_hc,x_hZ,x_hk,x_hY,x_hYl,x_hi,x_hc8,x_hm,x_hmb,x_hn9,x_hc9,by kernel_rfl⟩
def fn2A_h (i:Nat):Hn:=if i=4 then⟨10,[],[],[],[]⟩ else⟨0,[],[],[],[]⟩
abbrev fn2A_R (w:List Nat) (S:FS) (e:Exit) (K:FS→Prop):Prop:=Rn Tryd.prog (cAt w (bdy Tryd.f47)) S e K 0
structure fn2A_c (N:List Int):Prop where
  hN:N= []
variable {N:List Int} {k_1:fn2A_c N}
abbrev fn2A (_:fn2A_c N):FS:=⟨true,54,[(0,.agg (wA .i64 14 [32,64,2,13,22,6,11,25,7,18,3,17,19,10])),(1,.slice none 0 0)],[]⟩
abbrev fn2B (_:fn2A_c N):FS:=⟨false,54,[(1,.slice none 0 0),(2,.pointer (some ⟨0,0,none⟩))],[((wA .i64 14 [32,64,2,13,22,6,11,25,7,18,3,17,19,10]),(50,(0,0)))]⟩
theorem fn20:fn2A_R [0] (fn2A k_1) .normal (fun z_=>z_=fn2B k_1):=rn_ev (yty.en tab0) fn2A_h mixed _ none [] [] 1 (fun j M=>by kernel_rfl) A0 rfl
abbrev fn2C (_:fn2A_c N):FS:=⟨false,54,[(1,.slice none 0 0),(2,.pointer (some ⟨0,0,none⟩)),(5,.int .i64 64)],[((wA .i64 14 [32,64,2,13,22,6,11,25,7,18,3,17,19,10]),(50,(0,0)))]⟩
theorem fn21:fn2A_R [1,0] (fn2B k_1) .normal (fun z_=>z_=fn2C k_1):=rn_ev (yty.en tab0) fn2A_h mixed _ none [] [] 4 (fun j M=>by kernel_rfl) A0 rfl
structure fn2D_c (_:fn2A_c N) (cap:Nat):Prop where
  hc:0≤cap
variable {cap:Nat} {k_2:fn2D_c k_1 cap}
abbrev fn2D (_:fn2D_c k_1 cap):FS:=⟨false,54,[(1,.slice none 0 0),(2,.pointer (some ⟨0,0,none⟩)),(5,.int .i64 64),(6,.slice (some ⟨1,0,none⟩) 0 cap)],[((wA .i64 14 [32,64,2,13,22,6,11,25,7,18,3,17,19,10]),(50,(0,0))),((wA .u8 cap N),(5,(0,0)))]⟩
theorem fn22:fn2A_R [1,1,0] (fn2C k_1) .normal (fun z_=>∃(cap:Nat) (k_2:fn2D_c k_1 cap),z_=fn2D k_2):=by
  have⟨hN⟩:=id k_1
  refine rn_reg none (by kernel_rfl) fun j c0 ch0=> ?_
  refine rl_app (yty.en tab0) apB apB.ht 2 [] [] 1 [((wA .i64 14 [32,64,2,13,22,6,11,25,7,18,3,17,19,10]),(50,(0,0))),((wA .u8 0 []),(5,(0,0)))] 1 0 0 ([]:List Int) N (.slice none 0 0) (some 15) (by kernel_rfl) A0 rfl (by simp) (by subst hN;exact src_nil) (by subst hN;decide) fun n1 k1 M1 c1_ e1_ hn1 hk1=> ?_
  try simp only[zL] at hn1
  obtain rfl:n1=0:=by rw[hn1,hN];rfl
  exact rl_end (E:=(yty.en tab0)) _ [] [] 1 (fun M=>by kernel_rfl) A0 ⟨k1,⟨by omega⟩,rfl⟩
structure fn2L_c (_:fn2A_c N) (Z k n cap:Nat) (X:List Int):Prop where
  hX:X=N ++ [128] ++ List.replicate k 0
  hXl:X.length=n
  hn:n=0+1+k
  hc:n≤cap
  hZ:Z=(120 - (0+1)%64)%64
  hk:k≤Z
variable {Z k n:Nat} {X:List Int} {k_3:fn2L_c k_1 Z k n cap X}
abbrev fn2L (_:fn2L_c k_1 Z k n cap X):FS:=⟨false,54,[(1,.slice none 0 0),(2,.pointer (some ⟨0,0,none⟩)),(5,.int .i64 64),(6,.slice (some ⟨1,0,none⟩) n cap)],[((wA .i64 14 [32,64,2,13,22,6,11,25,7,18,3,17,19,10]),(50,(0,0))),((wA .u8 cap X),(5,(0,0)))]⟩
theorem fn23:fn2A_R [1,1,1,0] (fn2D k_2) .normal (fun z_=>∃(k1:Nat) (k_3:fn2L_c k_1 ((120 - (0+1)%64)%64) 0 (0+1) k1 (N ++ [128])),z_=fn2L k_3):=by
  have⟨hN⟩:=id k_1
  have⟨hc⟩:=id k_2
  refine rn_reg (some (false,2)) (by kernel_rfl) fun j c0 ch0=> ?_
  refine rl_app (yty.en tab0) apB apB.ht 2 [] [] 1 [((wA .i64 14 [32,64,2,13,22,6,11,25,7,18,3,17,19,10]),(50,(0,0))),((wA .u8 cap N),(5,(0,0))),((wA .u8 1 [128]),(5,(0,0)))] 1 0 cap N ([128]:List Int) (.slice (some ⟨2,0,none⟩) 1 1) (some 18) (by kernel_rfl) A0 (by rw[hN];rfl) (by rw[hN];exact hc) (src_wA (i:=2) rfl rfl (by decide)) (by rw[hN];decide) fun n1 k1 M1 c1_ e1_ hn1 hk1=> ?_
  try simp only[zL] at hn1
  obtain rfl:n1=0+1:=by rw[hn1,hN];rfl
  exact rl_end (E:=(yty.en tab0)) _ [] [] 1 (fun M=>by kernel_rfl) A0 ⟨k1,⟨by simp,by rw[hN];rfl,rfl,by rw[hN] at hn1;simp at hn1;omega,rfl,Nat.zero_le _⟩,rfl⟩
theorem fn24 (hlt:k<Z):fn2A_R [1,1,1,1,0,0,0,0] (fn2L k_3) .normal (fun z_=>z_=fn2L k_3):=by
  have⟨hN⟩:=id k_1
  have⟨hX,hXl,hn,hc,hZ,hk⟩:=id k_3
  exact rn_ev (yty.en tab0) fn2A_h mixed _ none [some (.int .i64 ((n%64:Nat):Int)),none,none,none,some (.bool true)] [(6,(((64:Int)≠0)∧(Int.tmod (n:Int) 64)=((n%64:Nat):Int))),(6,((4:Int)≠0)),(3,(!decide (((n%64:Nat):Int)=56))=true)] 0 (fun j M=>by kernel_rfl) (A1 ⟨(by decide),(by exact tmodN n 64)⟩ (A1 (by decide) (A1 (neT (by omega)) A0))) rfl
structure fn2M_c (_:fn2A_c N) (Z k n cap:Nat) (X:List Int):Prop where
  hX:X=N ++ [128] ++ List.replicate k 0
  hXl:X.length=n
  hn:n=0+1+k
  hc:n≤cap
  hZ:Z=(120 - (0+1)%64)%64
  hk:k=Z
variable {k_4:fn2M_c k_1 Z k n cap X}
abbrev fn2M (_:fn2M_c k_1 Z k n cap X):FS:=⟨false,54,[(1,.slice none 0 0),(2,.pointer (some ⟨0,0,none⟩)),(5,.int .i64 64),(6,.slice (some ⟨1,0,none⟩) n cap)],[((wA .i64 14 [32,64,2,13,22,6,11,25,7,18,3,17,19,10]),(50,(0,0))),((wA .u8 cap X),(5,(0,0)))]⟩
theorem fn25 (hge:¬ k<Z):fn2A_R [1,1,1,1,0,0,0,0] (fn2L k_3) (.exit 0) (fun z_=>∃(k_4:fn2M_c k_1 Z k n cap X),z_=fn2M k_4):=by
  have⟨hN⟩:=id k_1
  have⟨hX,hXl,hn,hc,hZ,hk⟩:=id k_3
  exact rn_ev (yty.en tab0) fn2A_h mixed _ none [some (.int .i64 ((n%64:Nat):Int)),none,none,none,some (.bool false)] [(6,(((64:Int)≠0)∧(Int.tmod (n:Int) 64)=((n%64:Nat):Int))),(6,((4:Int)≠0)),(3,(!decide (((n%64:Nat):Int)=56))=false)] 0 (fun j M=>by kernel_rfl) (A1 ⟨(by decide),(by exact tmodN n 64)⟩ (A1 (by decide) (A1 (neF (by omega)) A0))) ⟨⟨hX,hXl,hn,hc,hZ,by omega⟩,rfl⟩
theorem fn26 (hlt:k<Z):fn2A_R [1,1,1,1,0,0,0,1,0] (fn2L k_3) .normal (fun z_=>∃(k1:Nat) (k_3:fn2L_c k_1 Z (k+1) (n+1) k1 (X ++ [0])),z_=fn2L k_3):=by
  have⟨hN⟩:=id k_1
  have⟨hX,hXl,hn,hc,hZ,hk⟩:=id k_3
  refine rn_reg (some (false,2)) (by kernel_rfl) fun j c0 ch0=> ?_
  refine rl_app (yty.en tab0) apB apB.ht 2 [] [] 1 [((wA .i64 14 [32,64,2,13,22,6,11,25,7,18,3,17,19,10]),(50,(0,0))),((wA .u8 cap X),(5,(0,0))),((wA .u8 1 [0]),(5,(0,0)))] 1 n cap X ([0]:List Int) (.slice (some ⟨2,0,none⟩) 1 1) (some 31) (by kernel_rfl) A0 (by omega) (by omega) (src_wA (i:=2) rfl rfl (by decide)) (by simp only[List.length_cons,List.length_nil];omega) fun n1 k1 M1 c1_ e1_ hn1 hk1=> ?_
  try simp only[zL] at hn1
  obtain rfl:n1=n+1:=by omega
  exact rl_end (E:=(yty.en tab0)) _ [] [] 1 (fun M=>by kernel_rfl) A0 ⟨k1,⟨rep_cat hX,by simp only[List.length_append,List.length_cons,List.length_nil];omega,by omega,by omega,hZ,by omega⟩,rfl⟩
theorem fn29 (hlt:k<Z):fn2A_R [1,1,1,1,0,0,0,1] (fn2L k_3) .normal (fun z_=>∃(k1:Nat) (k_3:fn2L_c k_1 Z (k+1) (n+1) k1 (X ++ [0])),z_=fn2L k_3):=rn_block (k:=1) (w:= [1,1,1,1,0,0,0,1]) (by kernel_rfl) (fn26 hlt)
theorem fn27 (hlt:k<Z):fn2A_R [1,1,1,1,0,0,0] (fn2L k_3) .normal (fun z_=>∃(k11:Nat) (k_3:fn2L_c k_1 Z (k+1) (n+1) k11 (X ++ [0])),z_=fn2L k_3):=by
  refine rn_seq (w:= [1,1,1,1,0,0,0]) (by kernel_rfl) (fn24 hlt) ?_
  rintro _ rfl
  exact(fn29 hlt)
theorem fn28:fn2A_R [1,1,1,1,0] (fn2L k_3) .normal (fun z_=>∃(k n cap:Nat) (X:List Int) (k_4:fn2M_c k_1 Z k n cap X),z_=fn2M k_4):=by
  refine rn_loop (k:=0) (w:= [1,1,1,1,0]) (by kernel_rfl) (fun n_ z_=>∃(k n cap:Nat) (X:List Int) (k_3:fn2L_c k_1 Z k n cap X),n_=Z - k∧z_=fn2L k_3) _ ⟨_,_,_,_,k_3,rfl,rfl⟩ ?_
  rintro n_ _ ⟨k,n,cap,X,k_3,hn_,rfl⟩
  have⟨hN⟩:=k_1
  have⟨hX,hXl,hn,hc,hZ,hk⟩:=k_3
  by_cases hlt:k<Z
  · exact(fn27 hlt).x fun _ ⟨k11_,k_3,e_⟩=> .inl ⟨rfl,Z - (k+1),by omega,⟨_,_,_,_,k_3,rfl,e_⟩⟩
  · exact(rn_seqx (w:= [1,1,1,1,0,0,0]) (by kernel_rfl) (fn25 hlt) (by simp)).x fun _ ⟨k_4,e_⟩=> .inr ⟨rfl,⟨k,n,cap,X,k_4,e_⟩⟩
abbrev fn2G (_:fn2M_c k_1 Z k n cap X):FS:=⟨false,54,[(2,.pointer (some ⟨0,0,none⟩)),(6,.slice (some ⟨1,0,none⟩) n cap),(7,.int .u64 0)],[((wA .i64 14 [32,64,2,13,22,6,11,25,7,18,3,17,19,10]),(50,(0,0))),((wA .u8 cap X),(5,(0,0)))]⟩
theorem fn2a:fn2A_R [1,1,1,1,1,0] (fn2M k_4) .normal (fun z_=>z_=fn2G k_4):=rn_ev (yty.en tab0) fn2A_h mixed _ none [] [] 5 (fun j M=>by kernel_rfl) A0 rfl
abbrev fn2H (_:fn2M_c k_1 Z k n cap X):FS:=⟨false,54,[(2,.pointer (some ⟨0,0,none⟩)),(6,.slice (some ⟨1,0,none⟩) n cap),(7,.int .u64 0),(8,.slice none 0 0)],[((wA .i64 14 [32,64,2,13,22,6,11,25,7,18,3,17,19,10]),(50,(0,0))),((wA .u8 cap X),(5,(0,0)))]⟩
theorem fn2b:fn2A_R [1,1,1,1,1,1,0] (fn2G k_4) .normal (fun z_=>z_=fn2H k_4):=rn_ev (yty.en tab0) fn2A_h mixed _ none [] [] 1 (fun j M=>by kernel_rfl) A0 rfl
abbrev fn2I (_:fn2M_c k_1 Z k n cap X):FS:=⟨false,54,[(2,.pointer (some ⟨0,0,none⟩)),(6,.slice (some ⟨1,0,none⟩) n cap),(7,.int .u64 0),(8,.slice none 0 0),(9,.int .i64 0)],[((wA .i64 14 [32,64,2,13,22,6,11,25,7,18,3,17,19,10]),(50,(0,0))),((wA .u8 cap X),(5,(0,0)))]⟩
theorem fn2c:fn2A_R [1,1,1,1,1,1,1,0,0] (fn2H k_4) .normal (fun z_=>z_=fn2I k_4):=rn_ev (yty.en tab0) fn2A_h mixed _ none [] [] 1 (fun j M=>by kernel_rfl) A0 rfl
structure fn2J_c (_:fn2M_c k_1 Z k n cap X) (i m c8:Nat) (Y:List Int):Prop where
  hY:Y=beL 0 i
  hYl:Y.length=i
  hi:1≤i∧i≤8
  hc8:i≤c8
  hm:m=0 / 256 ^ i
  hmb:m≤8000000000
variable {i m c8:Nat} {Y:List Int} {k_5:fn2J_c k_4 i m c8 Y}
abbrev fn2J (_:fn2J_c k_4 i m c8 Y):FS:=⟨false,54,[(2,.pointer (some ⟨0,0,none⟩)),(6,.slice (some ⟨1,0,none⟩) n cap),(7,.int .u64 (m:Int)),(8,.slice (some ⟨2,0,none⟩) i c8),(9,.int .i64 (i:Int))],[((wA .i64 14 [32,64,2,13,22,6,11,25,7,18,3,17,19,10]),(50,(0,0))),((wA .u8 cap X),(5,(0,0))),((wA .u8 c8 Y),(5,(0,0)))]⟩
structure fn2K_c (_:fn2M_c k_1 Z k n cap X) (i m c8:Nat) (Y:List Int):Prop where
  hY:Y=beL 0 (i+1)
  hYl:Y.length=i+1
  hi:i+1≤8
  hc8:i+1≤c8
  hm:m=0 / 256 ^ i
  hmb:m≤8000000000
variable {k_6:fn2K_c k_4 i m c8 Y}
abbrev fn2K (_:fn2K_c k_4 i m c8 Y):FS:=⟨false,54,[(2,.pointer (some ⟨0,0,none⟩)),(6,.slice (some ⟨1,0,none⟩) n cap),(7,.int .u64 (m:Int)),(8,.slice (some ⟨2,0,none⟩) (i+1) c8),(9,.int .i64 (i:Int))],[((wA .i64 14 [32,64,2,13,22,6,11,25,7,18,3,17,19,10]),(50,(0,0))),((wA .u8 cap X),(5,(0,0))),((wA .u8 c8 Y),(5,(0,0)))]⟩
structure fn2N_c (_:fn2M_c k_1 Z k n cap X) (i m c8:Nat) (Y:List Int):Prop where
  hY:Y=beL 0 (i+1)
  hYl:Y.length=i+1
  hi:i+1≤8
  hc8:i+1≤c8
  hm:m=0 / 256 ^ (i+1)
  hmb:m≤8000000000
variable {k_7:fn2N_c k_4 i m c8 Y}
abbrev fn2N (_:fn2N_c k_4 i m c8 Y):FS:=⟨false,54,[(2,.pointer (some ⟨0,0,none⟩)),(6,.slice (some ⟨1,0,none⟩) n cap),(7,.int .u64 (m:Int)),(8,.slice (some ⟨2,0,none⟩) (i+1) c8),(9,.int .i64 (i:Int))],[((wA .i64 14 [32,64,2,13,22,6,11,25,7,18,3,17,19,10]),(50,(0,0))),((wA .u8 cap X),(5,(0,0))),((wA .u8 c8 Y),(5,(0,0)))]⟩
theorem fn2d:fn2A_R [1,1,1,1,1,1,1,0,1,0,0,0] (fn2I k_4) .normal (fun z_=>z_=fn2I k_4):=by
  have⟨hN⟩:=id k_1
  have⟨hX,hXl,hn,hc,hZ,hk⟩:=id k_4
  exact rn_ev (yty.en tab0) fn2A_h mixed _ none [none,none,some (.bool true)] [(6,((4:Int)≠0)),(1,true=true)] 0 (fun j M=>by kernel_rfl) (A1 (by decide) (A1 (by first|rfl|assumption) A0)) rfl
theorem fn2e (hlt:i<8):fn2A_R [1,1,1,1,1,1,1,0,1,0,0,0] (fn2J k_5) .normal (fun z_=>z_=fn2J k_5):=by
  have⟨hN⟩:=id k_1
  have⟨hX,hXl,hn,hc,hZ,hk⟩:=id k_4
  have⟨hY,hYl,hi,hc8,hm,hmb⟩:=id k_5
  exact rn_ev (yty.en tab0) fn2A_h mixed _ none [none,none,some (.bool true)] [(6,((4:Int)≠0)),(1,(decide ((i:Int)<8))=true)] 0 (fun j M=>by kernel_rfl) (A1 (by decide) (A1 (decide_eq_true (by omega)) A0)) rfl
structure fn2P_c (_:fn2M_c k_1 Z k n cap X) (i m c8:Nat) (Y:List Int):Prop where
  hY:Y=beL 0 i
  hYl:Y.length=i
  hi:i=8
  hc8:i≤c8
  hm:m=0 / 256 ^ i
  hmb:m≤8000000000
variable {k_8:fn2P_c k_4 i m c8 Y}
abbrev fn2P (_:fn2P_c k_4 i m c8 Y):FS:=⟨false,54,[(2,.pointer (some ⟨0,0,none⟩)),(6,.slice (some ⟨1,0,none⟩) n cap),(7,.int .u64 (m:Int)),(8,.slice (some ⟨2,0,none⟩) i c8),(9,.int .i64 (i:Int))],[((wA .i64 14 [32,64,2,13,22,6,11,25,7,18,3,17,19,10]),(50,(0,0))),((wA .u8 cap X),(5,(0,0))),((wA .u8 c8 Y),(5,(0,0)))]⟩
theorem fn2f (hge:¬ i<8):fn2A_R [1,1,1,1,1,1,1,0,1,0,0,0] (fn2J k_5) (.exit 2) (fun z_=>∃(k_8:fn2P_c k_4 i m c8 Y),z_=fn2P k_8):=by
  have⟨hN⟩:=id k_1
  have⟨hX,hXl,hn,hc,hZ,hk⟩:=id k_4
  have⟨hY,hYl,hi,hc8,hm,hmb⟩:=id k_5
  exact rn_ev (yty.en tab0) fn2A_h mixed _ none [none,none,some (.bool false)] [(6,((4:Int)≠0)),(1,(decide ((i:Int)<8))=false)] 0 (fun j M=>by kernel_rfl) (A1 (by decide) (A1 (decide_eq_false (by omega)) A0)) ⟨⟨hY,hYl,by omega,hc8,hm,hmb⟩,rfl⟩
theorem fn2g:fn2A_R [1,1,1,1,1,1,1,0,1,0,0,1,0,0,0] (fn2I k_4) .normal (fun z_=>∃(k1:Nat) (k_6:fn2K_c k_4 0 0 k1 (([0]:List Int) ++ [])),z_=fn2K k_6):=by
  have⟨hN⟩:=id k_1
  have⟨hX,hXl,hn,hc,hZ,hk⟩:=id k_4
  refine rn_reg none (by kernel_rfl) fun j c0 ch0=> ?_
  refine rl_app (yty.en tab0) apB apB.ht 5 [] [(2,((256:Int)≠0))] 2 [((wA .i64 14 [32,64,2,13,22,6,11,25,7,18,3,17,19,10]),(50,(0,0))),((wA .u8 cap X),(5,(0,0))),((wA .u8 1 [0]),(5,(0,0)))] 2 1 1 ([0]:List Int) ([]:List Int) (.slice none 0 0) (some 48) (by kernel_rfl) (A1 (by decide) A0) rfl (by simp) src_nil (by simp) fun n1 k1 M1 c1_ e1_ hn1 hk1=> ?_
  try simp only[zL] at hn1
  obtain rfl:n1=1:=hn1
  exact rl_end (E:=(yty.en tab0)) _ [] [] 1 (fun M=>by kernel_rfl) A0 ⟨k1,⟨by simp[beL],rfl,by omega,by omega,by simp,by omega⟩,rfl⟩
theorem fn2h (hlt:i<8):fn2A_R [1,1,1,1,1,1,1,0,1,0,0,1,0,0,0] (fn2J k_5) .normal (fun z_=>∃(k1:Nat) (k_6:fn2K_c k_4 i m k1 (([((m%256:Nat):Int)]:List Int) ++ Y)),z_=fn2K k_6):=by
  have⟨hN⟩:=id k_1
  have⟨hX,hXl,hn,hc,hZ,hk⟩:=id k_4
  have⟨hY,hYl,hi,hc8,hm,hmb⟩:=id k_5
  refine rn_reg (some (true,2)) (by kernel_rfl) fun j c0 ch0=> ?_
  refine rl_app (yty.en tab0) apB apB.ht 5 [some (.int .u64 ((m%256:Nat):Int)),some (.int .u8 ((m%256:Nat):Int))] [(2,(((256:Int)≠0)∧(Int.tmod (m:Int) 256)=((m%256:Nat):Int))),(1,(IntKind.u8.wrap ((m%256:Nat):Int))=((m%256:Nat):Int))] 1 [((wA .i64 14 [32,64,2,13,22,6,11,25,7,18,3,17,19,10]),(50,(0,0))),((wA .u8 cap X),(5,(0,0))),((wA .u8 c8 Y),(5,(0,0))),((wA .u8 1 [((m%256:Nat):Int)]),(5,(0,0)))] 3 1 1 ([((m%256:Nat):Int)]:List Int) Y (.slice (some ⟨2,0,none⟩) i c8) (some 48) (by kernel_rfl) (A1 ⟨(by decide),(by exact tmodN m 256)⟩ (A1 (wu8 (by omega)) A0)) rfl (by simp) (src_wA (i:=2) rfl hYl.symm (by omega)) (by simp only[List.length_cons,List.length_nil];omega) fun n1 k1 M1 c1_ e1_ hn1 hk1=> ?_
  try simp only[zL] at hn1
  obtain rfl:n1=i+1:=by omega
  exact rl_end (E:=(yty.en tab0)) _ [] [] 1 (fun M=>by kernel_rfl) A0 ⟨k1,⟨by rw[hY,hm];rfl,by simp only[List.length_append,List.length_cons,List.length_nil];omega,by omega,by omega,hm,hmb⟩,rfl⟩
theorem fn2i:fn2A_R [1,1,1,1,1,1,1,0,1,0,0,1,0,0,1] (fn2K k_6) .normal (fun z_=>∃(k_7:fn2N_c k_4 i (m / 256) c8 Y),z_=fn2N k_7):=by
  have⟨hN⟩:=id k_1
  have⟨hX,hXl,hn,hc,hZ,hk⟩:=id k_4
  have⟨hY,hYl,hi,hc8,hm,hmb⟩:=id k_6
  exact rn_ev (yty.en tab0) fn2A_h mixed _ none [some (.int .u64 ((m / 256:Nat):Int))] [(2,(((256:Int)≠0)∧(IntKind.u64.wrap (Int.tdiv (m:Int) 256))=((m / 256:Nat):Int)))] 1 (fun j M=>by kernel_rfl) (A1 ⟨(by decide),(by exact tdivN_u64 m 256 (by omega))⟩ A0) ⟨⟨hY,hYl,hi,hc8,by rw[hm,Nat.div_div_eq_div_mul,← Nat.pow_succ],by omega⟩,rfl⟩
theorem fn2j:fn2A_R [1,1,1,1,1,1,1,0,1,0,0,1,1] (fn2N k_7) .normal (fun z_=>∃(k_5:fn2J_c k_4 (i+1) m c8 Y),z_=fn2J k_5):=by
  have⟨hN⟩:=id k_1
  have⟨hX,hXl,hn,hc,hZ,hk⟩:=id k_4
  have⟨hY,hYl,hi,hc8,hm,hmb⟩:=id k_7
  exact rn_ev (yty.en tab0) fn2A_h mixed _ none [some (.int .i64 ((i+1:Nat):Int))] [(3,(IntKind.i64.wrap ((i:Int)+1))=((i+1:Nat):Int))] 1 (fun j M=>by kernel_rfl) (A1 (wi64 (by omega)) A0) ⟨⟨hY,hYl,by omega,hc8,hm,hmb⟩,rfl⟩
theorem fn2l:fn2A_R [1,1,1,1,1,1,1,0,1,0,0,1,0,0] (fn2I k_4) .normal (fun z_=>∃(k10:Nat) (k_7:fn2N_c k_4 0 (0 / 256) k10 (([0]:List Int) ++ [])),z_=fn2N k_7):=by
  refine rn_seq (w:= [1,1,1,1,1,1,1,0,1,0,0,1,0,0]) (by kernel_rfl) fn2g ?_
  rintro _ ⟨k10,k_6,rfl⟩
  exact(fn2i).mono fun _ ⟨k_7,e_⟩=>⟨k10,k_7,e_⟩
theorem fn2k:fn2A_R [1,1,1,1,1,1,1,0,1,0,0,1,0] (fn2I k_4) .normal (fun z_=>∃(k10:Nat) (k_7:fn2N_c k_4 0 (0 / 256) k10 (([0]:List Int) ++ [])),z_=fn2N k_7):=rn_block (k:=3) (w:= [1,1,1,1,1,1,1,0,1,0,0,1,0]) (by kernel_rfl) fn2l
theorem fn2n (hlt:i<8):fn2A_R [1,1,1,1,1,1,1,0,1,0,0,1,0,0] (fn2J k_5) .normal (fun z_=>∃(k10:Nat) (k_7:fn2N_c k_4 i (m / 256) k10 (([((m%256:Nat):Int)]:List Int) ++ Y)),z_=fn2N k_7):=by
  refine rn_seq (w:= [1,1,1,1,1,1,1,0,1,0,0,1,0,0]) (by kernel_rfl) (fn2h hlt) ?_
  rintro _ ⟨k10,k_6,rfl⟩
  exact(fn2i).mono fun _ ⟨k_7,e_⟩=>⟨k10,k_7,e_⟩
theorem fn2m (hlt:i<8):fn2A_R [1,1,1,1,1,1,1,0,1,0,0,1,0] (fn2J k_5) .normal (fun z_=>∃(k10:Nat) (k_7:fn2N_c k_4 i (m / 256) k10 (([((m%256:Nat):Int)]:List Int) ++ Y)),z_=fn2N k_7):=rn_block (k:=3) (w:= [1,1,1,1,1,1,1,0,1,0,0,1,0]) (by kernel_rfl) (fn2n hlt)
theorem fn2o:fn2A_R [1,1,1,1,1,1,1,0,1,0,0] (fn2I k_4) .normal (fun z_=>∃(k101:Nat) (k_5:fn2J_c k_4 (0+1) (0 / 256) k101 (([0]:List Int) ++ [])),z_=fn2J k_5):=by
  refine rn_seq (w:= [1,1,1,1,1,1,1,0,1,0,0]) (by kernel_rfl) fn2d ?_
  rintro _ rfl
  refine rn_seq (w:= [1,1,1,1,1,1,1,0,1,0,0,1]) (by kernel_rfl) fn2k ?_
  rintro _ ⟨k101,k_7,rfl⟩
  exact(fn2j).mono fun _ ⟨k_5,e_⟩=>⟨k101,k_5,e_⟩
theorem fn2p (hlt:i<8):fn2A_R [1,1,1,1,1,1,1,0,1,0,0] (fn2J k_5) .normal (fun z_=>∃(k101:Nat) (k_5:fn2J_c k_4 (i+1) (m / 256) k101 (([((m%256:Nat):Int)]:List Int) ++ Y)),z_=fn2J k_5):=by
  refine rn_seq (w:= [1,1,1,1,1,1,1,0,1,0,0]) (by kernel_rfl) (fn2e hlt) ?_
  rintro _ rfl
  refine rn_seq (w:= [1,1,1,1,1,1,1,0,1,0,0,1]) (by kernel_rfl) (fn2m hlt) ?_
  rintro _ ⟨k101,k_7,rfl⟩
  exact(fn2j).mono fun _ ⟨k_5,e_⟩=>⟨k101,k_5,e_⟩
theorem fn2q:fn2A_R [1,1,1,1,1,1,1,0,1] (fn2I k_4) .normal (fun z_=>∃(i m c8:Nat) (Y:List Int) (k_8:fn2P_c k_4 i m c8 Y),z_=fn2P k_8):=by
  refine rn_loop (k:=2) (w:= [1,1,1,1,1,1,1,0,1]) (by kernel_rfl) (fun n_ z_=>(n_=8 - 0∧z_=fn2I k_4)∨∃(i m c8:Nat) (Y:List Int) (k_5:fn2J_c k_4 i m c8 Y),n_=8 - i∧z_=fn2J k_5) _ (.inl ⟨rfl,rfl⟩) ?_
  rintro n_ _ (⟨hn_,rfl⟩|⟨i,m,c8,Y,k_5,hn_,rfl⟩)
  · have ⟨hN⟩ := k_1
    have⟨hX,hXl,hn,hc,hZ,hk⟩:=k_4
    have hlt:0<8:=by omega
    exact fn2o.x fun _ ⟨k101_,k_5,e_⟩=> .inl ⟨rfl,8 - (0+1),by omega,.inr ⟨_,_,_,_,k_5,rfl,e_⟩⟩
  · have ⟨hN⟩ := k_1
    have⟨hX,hXl,hn,hc,hZ,hk⟩:=k_4
    have⟨hY,hYl,hi,hc8,hm,hmb⟩:=k_5
    by_cases hlt:i<8
    · exact(fn2p hlt).x fun _ ⟨k101_,k_5,e_⟩=> .inl ⟨rfl,8 - (i+1),by omega,.inr ⟨_,_,_,_,k_5,rfl,e_⟩⟩
    · exact(rn_seqx (w:= [1,1,1,1,1,1,1,0,1,0,0]) (by kernel_rfl) (fn2f hlt) (by simp)).x fun _ ⟨k_8,e_⟩=> .inr ⟨rfl,⟨i,m,c8,Y,k_8,e_⟩⟩
theorem fn2r:fn2A_R [1,1,1,1,1,1,1,0] (fn2H k_4) .normal (fun z_=>∃(i1 m1 c81:Nat) (Y1:List Int) (k_8:fn2P_c k_4 i1 m1 c81 Y1),z_=fn2P k_8):=by
  refine rn_seq (w:= [1,1,1,1,1,1,1,0]) (by kernel_rfl) fn2c ?_
  rintro _ rfl
  exact fn2q
structure fn2O_c (_:fn2P_c k_4 i m c8 Y) (n9 c9:Nat):Prop where
  hn9:n9=n+i
  hc9:n9≤c9
variable {n9 c9:Nat} {k_9:fn2O_c k_8 n9 c9}
abbrev fn2O (_:fn2O_c k_8 n9 c9):FS:=⟨false,54,[(4,.slice (some ⟨1,0,none⟩) n9 c9)],[((wA .i64 14 [32,64,2,13,22,6,11,25,7,18,3,17,19,10]),(50,(0,0))),((wA .u8 c9 (X ++ Y)),(5,(0,0))),((wA .u8 c8 Y),(5,(0,0)))]⟩
theorem fn2s:fn2A_R [1,1,1,1,1,1,1,1,0] (fn2P k_8) .normal (fun z_=>∃(n1 k1:Nat) (k_9:fn2O_c k_8 n1 k1),z_=fn2O k_9):=by
  have⟨hN⟩:=id k_1
  have⟨hX,hXl,hn,hc,hZ,hk⟩:=id k_4
  have⟨hY,hYl,hi,hc8,hm,hmb⟩:=id k_8
  refine rn_reg none (by kernel_rfl) fun j c0 ch0=> ?_
  refine rl_app (yty.en tab0) apB apB.ht 2 [] [] 2 [((wA .i64 14 [32,64,2,13,22,6,11,25,7,18,3,17,19,10]),(50,(0,0))),((wA .u8 cap X),(5,(0,0))),((wA .u8 c8 Y),(5,(0,0)))] 1 n cap X Y (.slice (some ⟨2,0,none⟩) i c8) (some 53) (by kernel_rfl) A0 (by omega) (by omega) (src_wA (i:=2) rfl hYl.symm (by omega)) (by omega) fun n1 k1 M1 c1_ e1_ hn1 hk1=> ?_
  try simp only[zL] at hn1
  exact rl_end (E:=(yty.en tab0)) _ [] [] 1 (fun M=>by kernel_rfl) A0 ⟨n1,k1,⟨by omega,by omega⟩,rfl⟩
theorem fn2t:fn2A_R [1,1,1,1,1,1,1,1,1] (fn2O k_9) .ret (fun z_=>z_=fn2O k_9):=rn_ev (yty.en tab0) fn2A_h mixed _ none [] [] 0 (fun j M=>by kernel_rfl) A0 rfl
theorem fn2u':fn2A_R [] (fn2A k_1) .ret (fun z_=>∃(cap2 k13 k4 n4 cap4:Nat) (X4:List Int) (i17 m17 c817:Nat) (Y17:List Int) (n18 k18:Nat) (k_4:fn2M_c k_1 ((120 - (0+1)%64)%64) k4 n4 cap4 X4) (k_8:fn2P_c k_4 i17 m17 c817 Y17) (k_9:fn2O_c k_8 n18 k18),z_=fn2O k_9):=by
  refine rn_seq (w:= []) (by kernel_rfl) fn20 ?_
  rintro _ rfl
  refine rn_seq (w:= [1]) (by kernel_rfl) fn21 ?_
  rintro _ rfl
  refine rn_seq (w:= [1,1]) (by kernel_rfl) fn22 ?_
  rintro _ ⟨cap2,k_2,rfl⟩
  refine rn_seq (w:= [1,1,1]) (by kernel_rfl) fn23 ?_
  rintro _ ⟨k13,k_3,rfl⟩
  refine rn_seq (w:= [1,1,1,1]) (by kernel_rfl) fn28 ?_
  rintro _ ⟨k4,n4,cap4,X4,k_4,rfl⟩
  refine rn_seq (w:= [1,1,1,1,1]) (by kernel_rfl) fn2a ?_
  rintro _ rfl
  refine rn_seq (w:= [1,1,1,1,1,1]) (by kernel_rfl) fn2b ?_
  rintro _ rfl
  refine rn_seq (w:= [1,1,1,1,1,1,1]) (by kernel_rfl) fn2r ?_
  rintro _ ⟨i17,m17,c817,Y17,k_8,rfl⟩
  refine rn_seq (w:= [1,1,1,1,1,1,1,1]) (by kernel_rfl) fn2s ?_
  rintro _ ⟨n18,k18,k_9,rfl⟩
  exact(fn2t).mono fun _ e_=>⟨cap2,k13,k4,n4,cap4,X4,i17,m17,c817,Y17,n18,k18,k_4,k_8,k_9,e_⟩
abbrev fn2A_s (N:List Int) (j:Nat→Value):List Value:=([.agg (wA .i64 14 [32,64,2,13,22,6,11,25,7,18,3,17,19,10]),.slice none 0 0] ++ (JU 52))
abbrev fn2A_m (N:List Int):List Mb:= []
abbrev fn2O_s (N:List Int) (Z k n cap:Nat) (X:List Int) (i m c8:Nat) (Y:List Int) (n9 c9:Nat) (j:Nat→Value):List Value:=(J j 0 4 ++ ([.slice (some ⟨1,0,none⟩) n9 c9] ++ (J j 5 49)))
abbrev fn2O_m (N:List Int) (Z k n cap:Nat) (X:List Int) (i m c8:Nat) (Y:List Int) (n9 c9:Nat):List Mb:= [((wA .i64 14 [32,64,2,13,22,6,11,25,7,18,3,17,19,10]),(50,(0,0))),((wA .u8 c9 (X ++ Y)),(5,(0,0))),((wA .u8 c8 Y),(5,(0,0)))]
theorem fn2u (N:List Int) (j:Nat→Value) (hN:N= [])  :Runs Tryd.prog (cAt [] (bdy Tryd.f47)) ⟨fn2A_s N j,fn2A_m N,c0,ch0⟩ (fun e s=>e= .ret∧∃(cap2:Nat) (k13:Nat) (k4:Nat) (n4:Nat) (cap4:Nat) (X4:List Int) (i17:Nat) (m17:Nat) (c817:Nat) (Y17:List Int) (n18:Nat) (k18:Nat),∃j c ch,(X4=N ++ [128] ++ List.replicate k4 0)∧(X4.length=n4)∧(n4=0+1+k4)∧(n4≤cap4)∧(((120 - (0+1)%64)%64)=(120 - (0+1)%64)%64)∧(k4=((120 - (0+1)%64)%64))∧(Y17=beL 0 i17)∧(Y17.length=i17)∧(i17=8)∧(i17≤c817)∧(m17=0 / 256 ^ i17)∧(m17≤8000000000)∧(n18=n4+i17)∧(n18≤k18)∧s=⟨fn2O_s N ((120 - (0+1)%64)%64) k4 n4 cap4 X4 i17 m17 c817 Y17 n18 k18 j,fn2O_m N ((120 - (0+1)%64)%64) k4 n4 cap4 X4 i17 m17 c817 Y17 n18 k18,c,ch⟩) 0:=by
  refine(Rn.old (fn2u' (k_1:=(⟨hN⟩:fn2A_c N))) j (by kernel_rfl)).mono ?_
  rintro e s ⟨rfl,_,⟨cap2,k13,k4,n4,cap4,X4,i17,m17,c817,Y17,n18,k18,k_4,k_8,k_9,rfl⟩,j,c,ch,rfl⟩
  have⟨x_hX,x_hXl,x_hn,x_hc,x_hZ,x_hk⟩:=k_4
  have⟨x_hY,x_hYl,x_hi,x_hc8,x_hm,x_hmb⟩:=k_8
  have⟨x_hn9,x_hc9⟩:=k_9
  exact⟨rfl,cap2,k13,k4,n4,cap4,X4,i17,m17,c817,Y17,n18,k18,j,c,ch,x_hX,x_hXl,x_hn,x_hc,x_hZ,x_hk,x_hY,x_hYl,x_hi,x_hc8,x_hm,x_hmb,x_hn9,x_hc9,by kernel_rfl⟩
structure fs5A_c (a:Array Value) (t:Tq) (o l cp:Nat) (N:List Int):Prop where
  hu:SrcOk .u8 [(a,t)] (.slice (some ⟨0,o,none⟩) l cp) N
  hN:N.length=l
  hl:l≤1000000000
variable {a:Array Value} {t:Tq} {o l cp:Nat} {N:List Int} {k_1:fs5A_c a t o l cp N}
structure fs5D_c (_:fs5A_c a t o l cp N) (cap:Nat):Prop where
  hc:l≤cap
variable {cap:Nat} {k_2:fs5D_c k_1 cap}
structure fs5L_c (_:fs5A_c a t o l cp N) (Z k n cap:Nat) (X:List Int):Prop where
  hX:X=N ++ [128] ++ List.replicate k 0
  hXl:X.length=n
  hn:n=l+1+k
  hc:n≤cap
  hZ:Z=(240 - (l+1)%128)%128
  hk:k≤Z
variable {Z k n:Nat} {X:List Int} {k_3:fs5L_c k_1 Z k n cap X}
structure fs5M_c (_:fs5A_c a t o l cp N) (Z k n cap:Nat) (X:List Int):Prop where
  hX:X=N ++ [128] ++ List.replicate k 0
  hXl:X.length=n
  hn:n=l+1+k
  hc:n≤cap
  hZ:Z=(240 - (l+1)%128)%128
  hk:k=Z
variable {k_4:fs5M_c k_1 Z k n cap X}
structure fs5J_c (_:fs5M_c k_1 Z k n cap X) (i m c8:Nat) (Y:List Int):Prop where
  hY:Y=beL (l*8) i
  hYl:Y.length=i
  hi:1≤i∧i≤16
  hc8:i≤c8
  hm:m=(l*8) / 256 ^ i
  hmb:m≤8000000000
variable {i m c8:Nat} {Y:List Int} {k_5:fs5J_c k_4 i m c8 Y}
structure fs5K_c (_:fs5M_c k_1 Z k n cap X) (i m c8:Nat) (Y:List Int):Prop where
  hY:Y=beL (l*8) (i+1)
  hYl:Y.length=i+1
  hi:i+1≤16
  hc8:i+1≤c8
  hm:m=(l*8) / 256 ^ i
  hmb:m≤8000000000
variable {k_6:fs5K_c k_4 i m c8 Y}
structure fs5N_c (_:fs5M_c k_1 Z k n cap X) (i m c8:Nat) (Y:List Int):Prop where
  hY:Y=beL (l*8) (i+1)
  hYl:Y.length=i+1
  hi:i+1≤16
  hc8:i+1≤c8
  hm:m=(l*8) / 256 ^ (i+1)
  hmb:m≤8000000000
variable {k_7:fs5N_c k_4 i m c8 Y}
structure fs5P_c (_:fs5M_c k_1 Z k n cap X) (i m c8:Nat) (Y:List Int):Prop where
  hY:Y=beL (l*8) i
  hYl:Y.length=i
  hi:i=16
  hc8:i≤c8
  hm:m=(l*8) / 256 ^ i
  hmb:m≤8000000000
variable {k_8:fs5P_c k_4 i m c8 Y}
structure fs5O_c (_:fs5P_c k_4 i m c8 Y) (n9 c9:Nat):Prop where
  hn9:n9=n+i
  hc9:n9≤c9
variable {n9 c9:Nat} {k_9:fs5O_c k_8 n9 c9}
structure fn5A_c (N:List Int):Prop where
  hN:N= []
variable {N:List Int} {k_1:fn5A_c N}
structure fn5D_c (_:fn5A_c N) (cap:Nat):Prop where
  hc:0≤cap
variable {cap:Nat} {k_2:fn5D_c k_1 cap}
structure fn5L_c (_:fn5A_c N) (Z k n cap:Nat) (X:List Int):Prop where
  hX:X=N ++ [128] ++ List.replicate k 0
  hXl:X.length=n
  hn:n=0+1+k
  hc:n≤cap
  hZ:Z=(240 - (0+1)%128)%128
  hk:k≤Z
variable {Z k n:Nat} {X:List Int} {k_3:fn5L_c k_1 Z k n cap X}
structure fn5M_c (_:fn5A_c N) (Z k n cap:Nat) (X:List Int):Prop where
  hX:X=N ++ [128] ++ List.replicate k 0
  hXl:X.length=n
  hn:n=0+1+k
  hc:n≤cap
  hZ:Z=(240 - (0+1)%128)%128
  hk:k=Z
variable {k_4:fn5M_c k_1 Z k n cap X}
structure fn5J_c (_:fn5M_c k_1 Z k n cap X) (i m c8:Nat) (Y:List Int):Prop where
  hY:Y=beL 0 i
  hYl:Y.length=i
  hi:1≤i∧i≤16
  hc8:i≤c8
  hm:m=0 / 256 ^ i
  hmb:m≤8000000000
variable {i m c8:Nat} {Y:List Int} {k_5:fn5J_c k_4 i m c8 Y}
structure fn5K_c (_:fn5M_c k_1 Z k n cap X) (i m c8:Nat) (Y:List Int):Prop where
  hY:Y=beL 0 (i+1)
  hYl:Y.length=i+1
  hi:i+1≤16
  hc8:i+1≤c8
  hm:m=0 / 256 ^ i
  hmb:m≤8000000000
variable {k_6:fn5K_c k_4 i m c8 Y}
structure fn5N_c (_:fn5M_c k_1 Z k n cap X) (i m c8:Nat) (Y:List Int):Prop where
  hY:Y=beL 0 (i+1)
  hYl:Y.length=i+1
  hi:i+1≤16
  hc8:i+1≤c8
  hm:m=0 / 256 ^ (i+1)
  hmb:m≤8000000000
variable {k_7:fn5N_c k_4 i m c8 Y}
structure fn5P_c (_:fn5M_c k_1 Z k n cap X) (i m c8:Nat) (Y:List Int):Prop where
  hY:Y=beL 0 i
  hYl:Y.length=i
  hi:i=16
  hc8:i≤c8
  hm:m=0 / 256 ^ i
  hmb:m≤8000000000
variable {k_8:fn5P_c k_4 i m c8 Y}
structure fn5O_c (_:fn5P_c k_4 i m c8 Y) (n9 c9:Nat):Prop where
  hn9:n9=n+i
  hc9:n9≤c9
variable {n9 c9:Nat} {k_9:fn5O_c k_8 n9 c9}
end Go.Proofs.YtcfnjcacdmkgbaaDoor

set_option linter.unusedSimpArgs false
set_option linter.unusedVariables false
/-! The document's SHA-2: a text filled up, its contract. -/
namespace Go.Proofs.YtcfnjcacdmkgbaaDoor
open Go.RowKit Go.Ev
variable {c0:Prop} {ch0:List (Option Value)}
theorem makesA_lift {P : Program} {f : FuncId} {q0 : Value} (hq : np q0 = true) {n ng : Nat} {L : List Int} {e : TypeId} {mem : List Mb} {bp : Option Addr} {l cp : Nat} {N : List Int} (hu : SrcOk .u8 mem (.slice bp l cp) N) (hS : ∀ a t o, SrcOk .u8 [(a, t)] (.slice (some ⟨0, o, none⟩) l cp) N → MakesA P f [(a, t)] [q0, .slice (some ⟨0, o, none⟩) l cp] .u8 n L e) (hNil : N = [] → MakesA P f [] [q0, .slice none 0 0] .u8 n L e) : MakesA P f mem [q0, .slice bp l cp] .u8 n L e ng := fun w β hw hg => by
  rcases hu.h with⟨h1,h2⟩|⟨j,p,c,src,st,h1,h2,h3,h4⟩
  · cases h1
    have h:=hNil h2 w β (fun i x hx=>by simp at hx) (fun i hi=>by omega)
    exact h
  · cases h1
    have h := hS src st p ⟨.inr ⟨0, p, cp, src, st, rfl, rfl, h3, h4⟩⟩ w (fun _ => β j) (fun i x hx => by
      cases i with
      | zero =>
        simp only[List.getElem?_cons_zero,Option.some.injEq] at hx
        subst hx
        exact hw j _ h2
      |succ i=>simp at hx) (fun i hi=>by omega)
    have e1:∀ β:Nat→Nat,rn β q0=q0:=fun β=>rn_np hq
    simp only[List.map_cons,List.map_nil,e1] at h ⊢
    exact h
theorem np_agg (a:Array Value):np (.agg a)=true:=rfl
theorem okp_src {a:Array Value} {t:Tq} {bp:Option Addr} {l cp:Nat} {N:List Int} (h:SrcOk .u8 [(a,t)] (.slice bp l cp) N):okp 1 (.slice bp l cp)=true:=by
  rcases h.h with⟨h1,_⟩|⟨j,p,c,src,st,h1,h2,_⟩
  · cases h1;rfl
  · cases h1
    cases j with
    |zero=>rfl
    |succ j=>simp at h2
def ful2 (N:List Int):List Int:=N ++ [128] ++ List.replicate ((120 - (N.length+1)%64)%64) 0 ++ beL (N.length*8) 8
theorem ful2_len (N:List Int):(ful2 N).length=N.length+1+(120 - (N.length+1)%64)%64+8:=by
  unfold ful2
  simp only[List.length_append,List.length_cons,List.length_nil,List.length_replicate,beL_len]
theorem Full2s_c (a:Array Value) (t:Tq) (o l cp:Nat) (N:List Int) (hu:SrcOk .u8 [(a,t)] (.slice (some ⟨0,o,none⟩) l cp) N) (hN:N.length=l) (hl:l≤1000000000):MakesA Tryd.prog 47 [(a,t)] [.agg qC2,.slice (some ⟨0,o,none⟩) l cp] .u8 (ful2 N).length (ful2 N) 5:=by
  refine makesA_runs (fk:=1) Tryd.func47 (c:=bdy Tryd.f47) (by kernel_rfl) ⟨rfl,by decide⟩ (args:= [.agg qC2,.slice (some ⟨0,o,none⟩) l cp]) rfl (r:=4) (by kernel_rfl) (fs2u a t o l cp N (fun _=>undef) hu hN hl) ?_
  rintro e s ⟨rfl,cap2,k3,k4,n4,cap4,X4,i17,m17,c817,Y17,n18,k18,j,c,ch,hX,hXl,hn,hc,hZ,hk,hY,hYl,hi,hc8,hm,hmb,hn9,hc9,rfl⟩
  have hL:X4 ++ Y17=ful2 N:=by
    rw[hX,hY,hi,hk];unfold ful2;simp only[hN,List.length_nil]
  have hn':n18=(ful2 N).length:=by rw[ful2_len];simp only[hN,List.length_nil];omega
  refine⟨rfl,2,k18,by decide,by omega,?_,?_⟩
  · rw[← hn'];rfl
  · rw[← hL];rfl
theorem Full2n_c:MakesA Tryd.prog 47 [] [.agg qC2,.slice none 0 0] .u8 (ful2 []).length (ful2 []) 5:=by
  refine makesA_runs (fk:=0) Tryd.func47 (c:=bdy Tryd.f47) (by kernel_rfl) ⟨rfl,by decide⟩ (args:= [.agg qC2,.slice none 0 0]) rfl (r:=4) (by kernel_rfl) (fn2u [] (fun _=>undef) rfl) ?_
  rintro e s ⟨rfl,cap2,k3,k4,n4,cap4,X4,i17,m17,c817,Y17,n18,k18,j,c,ch,hX,hXl,hn,hc,hZ,hk,hY,hYl,hi,hc8,hm,hmb,hn9,hc9,rfl⟩
  have hL:X4 ++ Y17=ful2 []:=by
    rw[hX,hY,hi,hk];unfold ful2;simp only[List.length_nil]
  have hn':n18=(ful2 []).length:=by rw[ful2_len];simp only[List.length_nil];omega
  refine⟨rfl,1,k18,by decide,by omega,?_,?_⟩
  · rw[← hn'];rfl
  · rw[← hL];rfl
theorem Full2_c {mem:List Mb} {bp:Option Addr} {l cp ng:Nat} {N:List Int} (hu:SrcOk .u8 mem (.slice bp l cp) N) (hN:N.length=l) (hl:l≤1000000000):MakesA Tryd.prog 47 mem [.agg qC2,.slice bp l cp] .u8 (ful2 N).length (ful2 N) 5 ng:=
  makesA_lift (np_agg _) hu (fun a t o h=>Full2s_c a t o l cp N h hN hl) (fun e=>by subst e;exact Full2n_c)
def ful5 (N:List Int):List Int:=N ++ [128] ++ List.replicate ((240 - (N.length+1)%128)%128) 0 ++ beL (N.length*8) 16
theorem ful5_len (N:List Int):(ful5 N).length=N.length+1+(240 - (N.length+1)%128)%128+16:=by
  unfold ful5
  simp only[List.length_append,List.length_cons,List.length_nil,List.length_replicate,beL_len]
end Go.Proofs.YtcfnjcacdmkgbaaDoor

set_option linter.unusedSimpArgs false
set_option linter.unusedVariables false
/-! The document's sum is the program's. -/
namespace Go.Proofs.YtcfnjcacdmkgbaaDoor
open Go.RowKit Go.Ev
variable {c0:Prop} {ch0:List (Option Value)}
theorem oradd32 (x y s:Nat) (h:y<2 ^ s) (hx:x*2 ^ s+y<4294967296):bits .or .u32 ((x*2 ^ s:Nat):Int) (y:Int)=((x*2 ^ s+y:Nat):Int):=by
  rw[o32 _ _ (by omega) (by omega),Nat.mul_comm x,Nat.two_pow_add_eq_or_of_lt h]
theorem oradd64 (x y s:Nat) (h:y<2 ^ s) (hx:x*2 ^ s+y<18446744073709551616):bits .or .u64 ((x*2 ^ s:Nat):Int) (y:Int)=((x*2 ^ s+y:Nat):Int):=by
  rw[o64 _ _ (by omega) (by omega),Nat.mul_comm x,Nat.two_pow_add_eq_or_of_lt h]
theorem wd2_val {a:Array Value} {q:Nat} {b0 b1 b2 b3:Int} (e0:iat a (q+0)=b0) (e1:iat a (q+1)=b1) (e2:iat a (q+2)=b2) (e3:iat a (q+3)=b3) (h0:0≤b0∧b0<256) (h1:0≤b1∧b1<256) (h2:0≤b2∧b2<256) (h3:0≤b3∧b3<256):wd2 a q=((b0*256+b1)*256+b2)*256+b3:=by
  obtain⟨n0,rfl⟩:=Int.eq_ofNat_of_zero_le h0.1
  obtain⟨n1,rfl⟩:=Int.eq_ofNat_of_zero_le h1.1
  obtain⟨n2,rfl⟩:=Int.eq_ofNat_of_zero_le h2.1
  obtain⟨n3,rfl⟩:=Int.eq_ofNat_of_zero_le h3.1
  have k0:=h0.2
  have k1:=h1.2
  have k2:=h2.2
  have k3:=h3.2
  unfold wd2
  rw[e0,e1,e2,e3]
  have p24:(2:Int) ^ (24)=16777216:=by decide
  have p16:(2:Int) ^ (16)=65536:=by decide
  have p8:(2:Int) ^ (8)=256:=by decide
  have t0:IntKind.u32.wrap (IntKind.u32.wrap (n0:Int)*2 ^ (24))=((n0*2 ^ 24:Nat):Int):=by rw[p24];simp only[IntKind.wrap_u32];omega
  have t1:IntKind.u32.wrap (IntKind.u32.wrap (n1:Int)*2 ^ (16))=((n1*65536:Nat):Int):=by rw[p16];simp only[IntKind.wrap_u32];omega
  have t2:IntKind.u32.wrap (IntKind.u32.wrap (n2:Int)*2 ^ (8))=((n2*256:Nat):Int):=by rw[p8];simp only[IntKind.wrap_u32];omega
  have t3:IntKind.u32.wrap (n3:Int)=(n3:Int):=by rw[IntKind.wrap_u32];omega
  rw[t0,t1,t2,t3,oradd32 n0 (n1*65536) 24 (by omega) (by omega)]
  rw[show n0*2 ^ 24+n1*65536=(n0*256+n1)*2 ^ 16 from by omega,oradd32 _ (n2*256) 16 (by omega) (by omega)]
  rw[show(n0*256+n1)*2 ^ 16+n2*256=((n0*256+n1)*256+n2)*2 ^ 8 from by omega,oradd32 _ n3 8 (by omega) (by omega)]
  omega
theorem stepW {x b:Int} (h0:0≤x) (h1:x*256+255<18446744073709551616) (hb:0≤b∧b<256):IntKind.u64.wrap (IntKind.u64.wrap (x*256)+IntKind.u64.wrap b)=x*256+b:=by
  simp only[IntKind.wrap_u64];omega
theorem stepZ {b:Int} (hb:0≤b∧b<256):IntKind.u64.wrap (0+IntKind.u64.wrap b)=b:=by
  simp only[IntKind.wrap_u64];omega
theorem wdq2 {a:Array Value} {q:Nat} {A:List Int} {p i:Nat} (h:∀ j,j<4→iat a (q+j)=A.getD (p+i*4+j) 0∧0≤iat a (q+j)∧iat a (q+j)<256):xw2 A p i=wd2 a q∧W2 (wd2 a q):=by
  obtain⟨e0,h0⟩:=h 0 (by decide)
  obtain⟨e1,h1⟩:=h 1 (by decide)
  obtain⟨e2,h2⟩:=h 2 (by decide)
  obtain⟨e3,h3⟩:=h 3 (by decide)
  rw[Nat.add_zero (p+i*4)] at e0
  rw[wd2_val rfl rfl rfl rfl h0 h1 h2 h3]
  unfold xw2
  rw[← e0,← e1,← e2,← e3]
  generalize iat a (q+0)=b0 at*
  generalize iat a (q+1)=b1 at*
  generalize iat a (q+2)=b2 at*
  generalize iat a (q+3)=b3 at*
  rw[stepZ h0,stepW (by omega) (by omega) h1,stepW (by omega) (by omega) h2,stepW (by omega) (by omega) h3]
  exact⟨rfl,by omega,by omega⟩
theorem wdq5 {a:Array Value} {q:Nat} {A:List Int} {p i:Nat} (h:∀ j,j<8→iat a (q+j)=A.getD (p+i*8+j) 0∧0≤iat a (q+j)∧iat a (q+j)<256):xw5 A p i=wd5 a q∧W5 (wd5 a q):=by
  obtain⟨e0,h0⟩:=h 0 (by decide)
  obtain⟨e1,h1⟩:=h 1 (by decide)
  obtain⟨e2,h2⟩:=h 2 (by decide)
  obtain⟨e3,h3⟩:=h 3 (by decide)
  obtain⟨e4,h4⟩:=h 4 (by decide)
  obtain⟨e5,h5⟩:=h 5 (by decide)
  obtain⟨e6,h6⟩:=h 6 (by decide)
  obtain⟨e7,h7⟩:=h 7 (by decide)
  rw[Nat.add_zero (p+i*8)] at e0
  have v1:=wd2_val (a:=a) (q:=q) rfl rfl rfl rfl h0 h1 h2 h3
  have v2:=wd2_val (a:=a) (q:=q+4) (b0:=iat a (q+4)) (b1:=iat a (q+5)) (b2:=iat a (q+6)) (b3:=iat a (q+7)) rfl (by rw[Nat.add_assoc]) (by rw[Nat.add_assoc]) (by rw[Nat.add_assoc]) h4 h5 h6 h7
  unfold wd5 xw5
  rw[← e0,← e1,← e2,← e3,← e4,← e5,← e6,← e7]
  generalize wd2 a q=y1 at*
  generalize wd2 a (q+4)=y2 at*
  generalize iat a (q+0)=b0 at*
  generalize iat a (q+1)=b1 at*
  generalize iat a (q+2)=b2 at*
  generalize iat a (q+3)=b3 at*
  generalize iat a (q+4)=b4 at*
  generalize iat a (q+5)=b5 at*
  generalize iat a (q+6)=b6 at*
  generalize iat a (q+7)=b7 at*
  rw[stepZ h0,stepW (by omega) (by omega) h1,stepW (by omega) (by omega) h2,stepW (by omega) (by omega) h3,stepW (by omega) (by omega) h4,stepW (by omega) (by omega) h5,stepW (by omega) (by omega) h6,stepW (by omega) (by omega) h7]
  have r1:0≤y1∧y1<4294967296:=by omega
  have r2:0≤y2∧y2<4294967296:=by omega
  obtain⟨n1,rfl⟩:=Int.eq_ofNat_of_zero_le r1.1
  obtain⟨n2,rfl⟩:=Int.eq_ofNat_of_zero_le r2.1
  have p32:(2:Int) ^ (32)=4294967296:=by decide
  have t1:IntKind.u64.wrap (IntKind.u64.wrap (n1:Int)*2 ^ (32))=((n1*2 ^ 32:Nat):Int):=by rw[p32];simp only[IntKind.wrap_u64];omega
  have t2:IntKind.u64.wrap (n2:Int)=(n2:Int):=by rw[IntKind.wrap_u64];omega
  rw[t1,t2,oradd64 n1 n2 32 (by omega) (by omega)]
  exact⟨by omega,by omega,by omega⟩
theorem beL_get (n:Nat):∀(k t:Nat),t<k→(beL n k).getD t 0=((n / 256 ^ (k - 1 - t)%256:Nat):Int)
  |0,t,h=>by omega
  |k+1,0,h=>by rw[beL];rfl
  | k + 1, t + 1, h => by
    rw[beL,List.getD_cons_succ,beL_get n k t (by omega)]
    rw[show k+1 - 1 - (t+1)=k - 1 - t from by omega]
theorem getD_app {L M:List Int} {i:Nat}:(L ++ M).getD i 0=if i<L.length then L.getD i 0 else M.getD (i - L.length) 0:=by
  rw[List.getD_eq_getElem?_getD,List.getElem?_append]
  split<;>rw[List.getD_eq_getElem?_getD]
theorem getD_rep {m i:Nat}:(List.replicate m (0:Int)).getD i 0=0:=by
  rw[List.getD_eq_getElem?_getD,List.getElem?_replicate]
  split<;>rfl
theorem lset_get {N p i:Nat} {L:List Int} {x:Int}:(lset N L p x).getD i 0=if i<N then(if i=p then x else L.getD i 0) else 0:=by
  split
  · rename_i h;exact lset_at h
  · rename_i h
    unfold lset
    rw[List.getD_eq_getElem?_getD,List.getElem?_eq_none (by simp;omega)];rfl
theorem u8n (n s:Nat):IntKind.u8.wrap ((n:Int) / 2 ^ s)=((n / 2 ^ s%256:Nat):Int):=by
  have e:(n:Int) / 2 ^ s=((n / 2 ^ s:Nat):Int):=by simp
  rw[e,IntKind.wrap_u8];omega
theorem toS_get {S:List Int} {i:Nat} (h:i<8): [(toS S).a,(toS S).b,(toS S).c,(toS S).d,(toS S).e,(toS S).f,(toS S).g,(toS S).h].getD i 0=S.getD i 0:=by
  have h8:i=0∨i=1∨i=2∨i=3∨i=4∨i=5∨i=6∨i=7:=by omega
  rcases h8 with rfl|rfl|rfl|rfl|rfl|rfl|rfl|rfl<;>rfl
theorem fSq2 {A:List Int} {a:Array Value} {o q cnt:Nat} {S:List Int} (h0:toS S=hsD2 A q) (hW:WS2 (toS S)) (h:∀ j,j<64*cnt→iat a (o+j)=A.getD (64*q+j) 0∧0≤iat a (o+j)∧iat a (o+j)<256):∀ k,k≤cnt→toS (fS2 S a o k)=hsD2 A (q+k)∧WS2 (toS (fS2 S a o k))
  |0,_=>⟨h0,hW⟩
  | k + 1, hk => by
    obtain⟨h1,h2⟩:=fSq2 h0 hW h k (by omega)
    obtain⟨h3,h4⟩:=blockq2 A (64*(q+k)) (fun i=>wd2 a (o+64*k+4*i)) (fun i hi=>wdq2 (fun j hj=>by
      have:=h (64*k+4*i+j) (by omega)
      rw[show o+64*k+4*i+j=o+(64*k+4*i+j) from by omega,show 64*(q+k)+i*4+j=64*q+(64*k+4*i+j) from by omega]
      exact this)) (fS2 S a o k) h2
    rw[fS2,← Nat.add_assoc,hsD2,← h1,h3]
    exact⟨rfl,h4⟩
theorem ful2_get (N:List Int) (j Z:Nat) (hZ:Z=(120 - (N.length+1)%64)%64):(ful2 N).getD j 0=if j<N.length then N.getD j 0 else if j=N.length then 128 else if j<N.length+1+Z then 0 else(beL (N.length*8) 8).getD (j - (N.length+1+Z)) 0:=by
  unfold ful2
  rw[← hZ,getD_app,getD_app,getD_app]
  simp only[List.length_append,List.length_cons,List.length_nil,List.length_replicate,getD_rep]
  by_cases h1:j<N.length
  · rw[if_pos (by omega),if_pos (by omega),if_pos h1,if_pos h1]
  · rw [if_neg h1, if_neg h1]
    by_cases h2:j=N.length
    · rw[if_pos (by omega),if_pos (by omega),if_pos h2,h2,Nat.sub_self];rfl
    · rw [if_neg h2]
      by_cases h3:j<N.length+1+Z
      · rw[if_pos (by omega),if_neg (by omega),if_pos h3]
      · rw[if_neg (by omega),if_neg h3]
theorem endq2 {a : Array Value} {o l : Nat} (hb : bytesAt a o l) (hl : l ≤ 1000000000) (j : Nat) (hj : j < endN2 l) : iat (endC2 a o l) (0 + j) = (ful2 (bL a o l)).getD (64 * (l / 64) + j) 0 := by
  have hN:=bL_len a o l
  have hE:endN2 l=if 64<l%64+9 then 128 else 64:=rfl
  obtain⟨Z,hZ⟩:∃ Z,Z=(120 - (l+1)%64)%64:=⟨_,rfl⟩
  have hL:l+1+Z+8=64*(l / 64)+endN2 l:=by rw[hE];split<;>omega
  rw[ful2_get _ _ Z (by rw[hN];exact hZ),hN]
  have e:iat (endC2 a o l) (0+j)=(pad8 (endN2 l) (tl2 a o l) ((8*l:Nat):Int)).getD j 0:=by
    unfold endC2 iat
    rw[Nat.zero_add,wA_at hj]
  rw[e]
  have hle:=Nat.mod_le l 64
  have hdm:=Nat.div_add_mod l 64
  have ht : (tl2 a o l).getD j 0 = if j < l % 64 then iat a (o + (l - l % 64) + j) else if j = l % 64 then 128 else 0 := by
    unfold tl2
    rw[getD_app,bL_len]
    split
    · rename_i h;rw[bL_at,if_pos h]
    · split
      · rename_i h1 h2;rw[h2,Nat.sub_self];rfl
      · rw[List.getD_eq_getElem?_getD,List.getElem?_eq_none (by simp;omega)];rfl
  unfold pad8
  simp only[lset_get,if_pos hj,ht,u8n]
  have hE9:l%64+9≤endN2 l:=by rw[hE];split<;>omega
  by_cases h1:j<l%64
  · rw [if_neg (by omega), if_neg (by omega), if_neg (by omega), if_neg (by omega), if_neg (by omega), if_neg (by omega), if_neg (by omega), if_neg (by omega), if_pos h1, if_pos (by omega), bL_at, if_pos (by omega)]
    congr 1;omega
  · by_cases h2 : j = l % 64
    · rw[if_neg (by omega),if_neg (by omega),if_neg (by omega),if_neg (by omega),if_neg (by omega),if_neg (by omega),if_neg (by omega),if_neg (by omega),if_neg h1,if_pos h2,if_neg (by omega),if_pos (by omega)]
    · rw [if_neg h1, if_neg h2, if_neg (show ¬ 64 * (l / 64) + j < l by omega), if_neg (show ¬ 64 * (l / 64) + j = l by omega)]
      by_cases h3:64*(l / 64)+j<l+1+Z
      · rw[if_pos h3,if_neg (by omega),if_neg (by omega),if_neg (by omega),if_neg (by omega),if_neg (by omega),if_neg (by omega),if_neg (by omega),if_neg (by omega)]
      · rw [if_neg h3]
        obtain⟨m,hm⟩:∃ m,m=endN2 l - 1 - j:=⟨_,rfl⟩
        have hmW:m<8:=by omega
        rw[beL_get _ _ _ (by omega),show 8 - 1 - (64*(l / 64)+j - (l+1+Z))=m from by omega,Nat.mul_comm 8 l]
        have hj2:j=endN2 l - 1 - m:=by omega
        have hbig:l*8<18446744073709551616:=by omega
        generalize l*8=c at hbig ⊢
        have hpos:8≤endN2 l:=by omega
        generalize endN2 l=E at*
        have h8:m=0∨m=1∨m=2∨m=3∨m=4∨m=5∨m=6∨m=7:=by omega
        rcases h8 with rfl|rfl|rfl|rfl|rfl|rfl|rfl|rfl
        · rw[if_neg (by omega),if_neg (by omega),if_neg (by omega),if_neg (by omega),if_neg (by omega),if_neg (by omega),if_neg (by omega),if_pos (by omega)]
        · rw[if_neg (by omega),if_neg (by omega),if_neg (by omega),if_neg (by omega),if_neg (by omega),if_neg (by omega),if_pos (by omega)]
        · rw[if_neg (by omega),if_neg (by omega),if_neg (by omega),if_neg (by omega),if_neg (by omega),if_pos (by omega)]
        · rw[if_neg (by omega),if_neg (by omega),if_neg (by omega),if_neg (by omega),if_pos (by omega)]
        · rw[if_neg (by omega),if_neg (by omega),if_neg (by omega),if_pos (by omega)]
        · rw[if_neg (by omega),if_neg (by omega),if_pos (by omega)]
        · rw[if_neg (by omega),if_pos (by omega)]
        · rw[if_pos (by omega)]
theorem outq2 (S:List Int):oL2 [(toS S).a,(toS S).b,(toS S).c,(toS S).d,(toS S).e,(toS S).f,(toS S).g,(toS S).h] 32=out2 S:=by
  unfold oL2 out2
  apply List.map_congr_left
  intro x hx
  have hx':x<32:=by simpa using hx
  rw[toS_get (by omega),show min (8*(3 - x%4)) 64=24 - x%4*8 from by omega]
theorem sumq2 {a:Array Value} {o l:Nat} (hb:bytesAt a o l) (hl:l≤1000000000) {y:S8} {Bn:Nat} (hB:(ful2 (bL a o l)).length=64*Bn) (hy:y=hsD2 (ful2 (bL a o l)) Bn):oL2 [y.a,y.b,y.c,y.d,y.e,y.f,y.g,y.h] 32=sum2 a o l:=by
  have hN:=bL_len a o l
  have hlen:=ful2_len (bL a o l)
  rw[hN] at hlen
  have hE:endN2 l=if 64<l%64+9 then 128 else 64:=rfl
  have hdm:=Nat.div_add_mod l 64
  obtain⟨h1,h2⟩:=fSq2 (A:=ful2 (bL a o l)) (a:=a) (o:=o) (q:=0) (cnt:=l / 64) (S:=bg2) rfl (by constructor<;>(constructor<;>decide)) (fun j hj=>by
    have hj':j<l:=by omega
    rw[ful2_get _ _ _ rfl,hN,if_pos (by omega),bL_at,if_pos (by omega)]
    refine⟨by congr 1;omega,(hb j hj').2⟩) (l / 64) (Nat.le_refl _)
  rw[Nat.zero_add] at h1
  have hC:=end2_bytes hb
  obtain⟨h3,h4⟩:=fSq2 (A:=ful2 (bL a o l)) (a:=endC2 a o l) (o:=0) (q:=l / 64) (cnt:=endN2 l / 64) h1 h2 (fun j hj=>by
    have hj':j<endN2 l:=by have:=endN2_mul l;omega
    exact⟨endq2 hb hl j hj',(hC j hj').2⟩) (endN2 l / 64) (Nat.le_refl _)
  have hBn : Bn = l / 64 + endN2 l / 64 := by
    have h2c:(endN2 l=128∧64<l%64+9)∨(endN2 l=64∧¬ 64<l%64+9):=by
      rw[hE]
      split
      · exact .inl ⟨rfl,by assumption⟩
      · exact .inr ⟨rfl,by assumption⟩
    rcases h2c with⟨e,h⟩|⟨e,h⟩<;>rw[e]<;>omega
  rw[hy,hBn,← h3,outq2]
  rfl
theorem fSq5 {A:List Int} {a:Array Value} {o q cnt:Nat} {S:List Int} (h0:toS S=hsD5 A q) (hW:WS5 (toS S)) (h:∀ j,j<128*cnt→iat a (o+j)=A.getD (128*q+j) 0∧0≤iat a (o+j)∧iat a (o+j)<256):∀ k,k≤cnt→toS (fS5 S a o k)=hsD5 A (q+k)∧WS5 (toS (fS5 S a o k))
  |0,_=>⟨h0,hW⟩
  | k + 1, hk => by
    obtain⟨h1,h2⟩:=fSq5 h0 hW h k (by omega)
    obtain⟨h3,h4⟩:=blockq5 A (128*(q+k)) (fun i=>wd5 a (o+128*k+8*i)) (fun i hi=>wdq5 (fun j hj=>by
      have:=h (128*k+8*i+j) (by omega)
      rw[show o+128*k+8*i+j=o+(128*k+8*i+j) from by omega,show 128*(q+k)+i*8+j=128*q+(128*k+8*i+j) from by omega]
      exact this)) (fS5 S a o k) h2
    rw[fS5,← Nat.add_assoc,hsD5,← h1,h3]
    exact⟨rfl,h4⟩
theorem ful5_get (N:List Int) (j Z:Nat) (hZ:Z=(240 - (N.length+1)%128)%128):(ful5 N).getD j 0=if j<N.length then N.getD j 0 else if j=N.length then 128 else if j<N.length+1+Z then 0 else(beL (N.length*8) 16).getD (j - (N.length+1+Z)) 0:=by
  unfold ful5
  rw[← hZ,getD_app,getD_app,getD_app]
  simp only[List.length_append,List.length_cons,List.length_nil,List.length_replicate,getD_rep]
  by_cases h1:j<N.length
  · rw[if_pos (by omega),if_pos (by omega),if_pos h1,if_pos h1]
  · rw [if_neg h1, if_neg h1]
    by_cases h2:j=N.length
    · rw[if_pos (by omega),if_pos (by omega),if_pos h2,h2,Nat.sub_self];rfl
    · rw [if_neg h2]
      by_cases h3:j<N.length+1+Z
      · rw[if_pos (by omega),if_neg (by omega),if_pos h3]
      · rw[if_neg (by omega),if_neg h3]
theorem endq5 {a : Array Value} {o l : Nat} (hb : bytesAt a o l) (hl : l ≤ 1000000000) (j : Nat) (hj : j < endN5 l) : iat (endC5 a o l) (0 + j) = (ful5 (bL a o l)).getD (128 * (l / 128) + j) 0 := by
  have hN:=bL_len a o l
  have hE:endN5 l=if 128<l%128+17 then 256 else 128:=rfl
  obtain⟨Z,hZ⟩:∃ Z,Z=(240 - (l+1)%128)%128:=⟨_,rfl⟩
  have hL:l+1+Z+16=128*(l / 128)+endN5 l:=by rw[hE];split<;>omega
  rw[ful5_get _ _ Z (by rw[hN];exact hZ),hN]
  have e:iat (endC5 a o l) (0+j)=(pad8 (endN5 l) (tl5 a o l) ((8*l:Nat):Int)).getD j 0:=by
    unfold endC5 iat
    rw[Nat.zero_add,wA_at hj]
  rw[e]
  have hle:=Nat.mod_le l 128
  have hdm:=Nat.div_add_mod l 128
  have ht : (tl5 a o l).getD j 0 = if j < l % 128 then iat a (o + (l - l % 128) + j) else if j = l % 128 then 128 else 0 := by
    unfold tl5
    rw[getD_app,bL_len]
    split
    · rename_i h;rw[bL_at,if_pos h]
    · split
      · rename_i h1 h2;rw[h2,Nat.sub_self];rfl
      · rw[List.getD_eq_getElem?_getD,List.getElem?_eq_none (by simp;omega)];rfl
  unfold pad8
  simp only[lset_get,if_pos hj,ht,u8n]
  have hE9:l%128+17≤endN5 l:=by rw[hE];split<;>omega
  by_cases h1:j<l%128
  · rw [if_neg (by omega), if_neg (by omega), if_neg (by omega), if_neg (by omega), if_neg (by omega), if_neg (by omega), if_neg (by omega), if_neg (by omega), if_pos h1, if_pos (by omega), bL_at, if_pos (by omega)]
    congr 1;omega
  · by_cases h2 : j = l % 128
    · rw[if_neg (by omega),if_neg (by omega),if_neg (by omega),if_neg (by omega),if_neg (by omega),if_neg (by omega),if_neg (by omega),if_neg (by omega),if_neg h1,if_pos h2,if_neg (by omega),if_pos (by omega)]
    · rw [if_neg h1, if_neg h2, if_neg (show ¬ 128 * (l / 128) + j < l by omega), if_neg (show ¬ 128 * (l / 128) + j = l by omega)]
      by_cases h3:128*(l / 128)+j<l+1+Z
      · rw[if_pos h3,if_neg (by omega),if_neg (by omega),if_neg (by omega),if_neg (by omega),if_neg (by omega),if_neg (by omega),if_neg (by omega),if_neg (by omega)]
      · rw [if_neg h3]
        obtain⟨m,hm⟩:∃ m,m=endN5 l - 1 - j:=⟨_,rfl⟩
        have hmW:m<16:=by omega
        rw[beL_get _ _ _ (by omega),show 16 - 1 - (128*(l / 128)+j - (l+1+Z))=m from by omega,Nat.mul_comm 8 l]
        have hj2:j=endN5 l - 1 - m:=by omega
        have hbig:l*8<18446744073709551616:=by omega
        generalize l*8=c at hbig ⊢
        have hpos:16≤endN5 l:=by omega
        generalize endN5 l=E at*
        have h8:m=0∨m=1∨m=2∨m=3∨m=4∨m=5∨m=6∨m=7∨m=8∨m=9∨m=10∨m=11∨m=12∨m=13∨m=14∨m=15:=by omega
        rcases h8 with rfl|rfl|rfl|rfl|rfl|rfl|rfl|rfl|rfl|rfl|rfl|rfl|rfl|rfl|rfl|rfl
        · rw[if_neg (by omega),if_neg (by omega),if_neg (by omega),if_neg (by omega),if_neg (by omega),if_neg (by omega),if_neg (by omega),if_pos (by omega)]
        · rw[if_neg (by omega),if_neg (by omega),if_neg (by omega),if_neg (by omega),if_neg (by omega),if_neg (by omega),if_pos (by omega)]
        · rw[if_neg (by omega),if_neg (by omega),if_neg (by omega),if_neg (by omega),if_neg (by omega),if_pos (by omega)]
        · rw[if_neg (by omega),if_neg (by omega),if_neg (by omega),if_neg (by omega),if_pos (by omega)]
        · rw[if_neg (by omega),if_neg (by omega),if_neg (by omega),if_pos (by omega)]
        · rw[if_neg (by omega),if_neg (by omega),if_pos (by omega)]
        · rw[if_neg (by omega),if_pos (by omega)]
        · rw[if_pos (by omega)]
        · rw[if_neg (by omega),if_neg (by omega),if_neg (by omega),if_neg (by omega),if_neg (by omega),if_neg (by omega),if_neg (by omega),if_neg (by omega),Nat.div_eq_of_lt (Nat.lt_of_lt_of_le hbig (by decide))];rfl
        · rw[if_neg (by omega),if_neg (by omega),if_neg (by omega),if_neg (by omega),if_neg (by omega),if_neg (by omega),if_neg (by omega),if_neg (by omega),Nat.div_eq_of_lt (Nat.lt_of_lt_of_le hbig (by decide))];rfl
        · rw[if_neg (by omega),if_neg (by omega),if_neg (by omega),if_neg (by omega),if_neg (by omega),if_neg (by omega),if_neg (by omega),if_neg (by omega),Nat.div_eq_of_lt (Nat.lt_of_lt_of_le hbig (by decide))];rfl
        · rw[if_neg (by omega),if_neg (by omega),if_neg (by omega),if_neg (by omega),if_neg (by omega),if_neg (by omega),if_neg (by omega),if_neg (by omega),Nat.div_eq_of_lt (Nat.lt_of_lt_of_le hbig (by decide))];rfl
        · rw[if_neg (by omega),if_neg (by omega),if_neg (by omega),if_neg (by omega),if_neg (by omega),if_neg (by omega),if_neg (by omega),if_neg (by omega),Nat.div_eq_of_lt (Nat.lt_of_lt_of_le hbig (by decide))];rfl
        · rw[if_neg (by omega),if_neg (by omega),if_neg (by omega),if_neg (by omega),if_neg (by omega),if_neg (by omega),if_neg (by omega),if_neg (by omega),Nat.div_eq_of_lt (Nat.lt_of_lt_of_le hbig (by decide))];rfl
        · rw[if_neg (by omega),if_neg (by omega),if_neg (by omega),if_neg (by omega),if_neg (by omega),if_neg (by omega),if_neg (by omega),if_neg (by omega),Nat.div_eq_of_lt (Nat.lt_of_lt_of_le hbig (by decide))];rfl
        · rw[if_neg (by omega),if_neg (by omega),if_neg (by omega),if_neg (by omega),if_neg (by omega),if_neg (by omega),if_neg (by omega),if_neg (by omega),Nat.div_eq_of_lt (Nat.lt_of_lt_of_le hbig (by decide))];rfl
theorem outq5 (S:List Int):oL5 [(toS S).a,(toS S).b,(toS S).c,(toS S).d,(toS S).e,(toS S).f,(toS S).g,(toS S).h] 64=out5 S:=by
  unfold oL5 out5
  apply List.map_congr_left
  intro x hx
  have hx':x<64:=by simpa using hx
  rw[toS_get (by omega),show min (8*(7 - x%8)) 64=56 - x%8*8 from by omega]
theorem sumq5 {a:Array Value} {o l:Nat} (hb:bytesAt a o l) (hl:l≤1000000000) {y:S8} {Bn:Nat} (hB:(ful5 (bL a o l)).length=128*Bn) (hy:y=hsD5 (ful5 (bL a o l)) Bn):oL5 [y.a,y.b,y.c,y.d,y.e,y.f,y.g,y.h] 64=sum5 a o l:=by
  have hN:=bL_len a o l
  have hlen:=ful5_len (bL a o l)
  rw[hN] at hlen
  have hE:endN5 l=if 128<l%128+17 then 256 else 128:=rfl
  have hdm:=Nat.div_add_mod l 128
  obtain⟨h1,h2⟩:=fSq5 (A:=ful5 (bL a o l)) (a:=a) (o:=o) (q:=0) (cnt:=l / 128) (S:=bg5) rfl (by constructor<;>(constructor<;>decide)) (fun j hj=>by
    have hj':j<l:=by omega
    rw[ful5_get _ _ _ rfl,hN,if_pos (by omega),bL_at,if_pos (by omega)]
    refine⟨by congr 1;omega,(hb j hj').2⟩) (l / 128) (Nat.le_refl _)
  rw[Nat.zero_add] at h1
  have hC:=end5_bytes hb
  obtain⟨h3,h4⟩:=fSq5 (A:=ful5 (bL a o l)) (a:=endC5 a o l) (o:=0) (q:=l / 128) (cnt:=endN5 l / 128) h1 h2 (fun j hj=>by
    have hj':j<endN5 l:=by have:=endN5_mul l;omega
    exact⟨endq5 hb hl j hj',(hC j hj').2⟩) (endN5 l / 128) (Nat.le_refl _)
  have hBn : Bn = l / 128 + endN5 l / 128 := by
    have h2c:(endN5 l=256∧128<l%128+17)∨(endN5 l=128∧¬ 128<l%128+17):=by
      rw[hE]
      split
      · exact .inl ⟨rfl,by assumption⟩
      · exact .inr ⟨rfl,by assumption⟩
    rcases h2c with⟨e,h⟩|⟨e,h⟩<;>rw[e]<;>omega
  rw[hy,hBn,← h3,outq5]
  rfl
end Go.Proofs.YtcfnjcacdmkgbaaDoor

set_option linter.unusedSimpArgs false
set_option linter.unusedVariables false
/-! The same bytes, with one more behind them. -/
namespace Go.Proofs.YtcfnjcacdmkgbaaDoor
open Go.RowKit Go.Ev
variable {c0:Prop} {ch0:List (Option Value)}
theorem makesA_lift1 {P : Program} {f : FuncId} {n ng : Nat} {L : List Int} {e : TypeId} {mem : List Mb} {bp : Option Addr} {l cp : Nat} {N : List Int} (hu : SrcOk .u8 mem (.slice bp l cp) N) (hS : ∀ a t o, SrcOk .u8 [(a, t)] (.slice (some ⟨0, o, none⟩) l cp) N → MakesA P f [(a, t)] [.slice (some ⟨0, o, none⟩) l cp] .u8 n L e) (hNil : N = [] → MakesA P f [] [.slice none 0 0] .u8 n L e) : MakesA P f mem [.slice bp l cp] .u8 n L e ng := fun w β hw hg => by
  rcases hu.h with⟨h1,h2⟩|⟨j,p,c,src,st,h1,h2,h3,h4⟩
  · cases h1
    exact hNil h2 w β (fun i x hx=>by simp at hx) (fun i hi=>by omega)
  · cases h1
    exact hS src st p ⟨.inr ⟨0,p,cp,src,st,rfl,rfl,h3,h4⟩⟩ w (fun _=>β j) (fun i x hx=>by
      cases i with
      | zero =>
        simp only[List.getElem?_cons_zero,Option.some.injEq] at hx
        subst hx
        exact hw j _ h2
      |succ i=>simp at hx) (fun i hi=>by omega)
variable {a:Array Value} {t:Tq} {o l cp:Nat} {N:List Int}
variable {k2:Nat}
variable {N:List Int}
variable {k2:Nat}
end Go.Proofs.YtcfnjcacdmkgbaaDoor
