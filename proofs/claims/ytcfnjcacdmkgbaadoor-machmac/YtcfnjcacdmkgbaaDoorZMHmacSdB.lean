import Derived.Test.YtcfnjcacdmkgbaaDoorZMHmacSdA1
set_option linter.unusedSimpArgs false
set_option linter.unusedVariables false
/-! The document's SHA-2: a text filled up. -/
namespace Go.Proofs.YtcfnjcacdmkgbaaDoor
open Go.RowKit Go.Ev
variable {c0:Prop} {ch0:List (Option Value)}
def beL (n:Nat):Nat→List Int
  |0=> []
  |k+1=>((n / 256 ^ k%256:Nat):Int) :: beL n k
theorem beL_len (n:Nat):∀ k,(beL n k).length=k
  |0=>rfl
  |k+1=>by rw[beL,List.length_cons,beL_len n k]
theorem SrcOk.app {q:IntKind} {mem x:List Mb} {u:Value} {N:List Int} (h:SrcOk q mem u N):SrcOk q (mem ++ x) u N:=by
  rcases h.h with h|⟨j,p,c,src,st,h1,h2,h3⟩
  · exact⟨.inl h⟩
  · exact⟨.inr ⟨j,p,c,src,st,h1,by rw[List.getElem?_append_left (List.getElem?_eq_some_iff.1 h2).1];exact h2,h3⟩⟩
theorem rep_cat {X N:List Int} {k:Nat} (h:X=N ++ [128] ++ List.replicate k 0):X ++ [0]=N ++ [128] ++ List.replicate (k+1) 0:=by
  rw[h,List.append_assoc,List.replicate_succ']
def fs2A_h (i:Nat):Hn:=if i=4 then⟨10,[],[],[],[]⟩ else⟨0,[],[],[],[]⟩
abbrev fs2A_R (w:List Nat) (S:FS) (e:Exit) (K:FS→Prop):Prop:=Rn Tryd.prog (cAt w (bdy Tryd.f47)) S e K 1
structure fs2A_c (a:Array Value) (t:Tq) (o l cp:Nat) (N:List Int):Prop where
  hu:SrcOk .u8 [(a,t)] (.slice (some ⟨0,o,none⟩) l cp) N
  hN:N.length=l
  hl:l≤1000000000
variable {a:Array Value} {t:Tq} {o l cp:Nat} {N:List Int} {k_1:fs2A_c a t o l cp N}
abbrev fs2A (_:fs2A_c a t o l cp N):FS:=⟨true,54,[(0,.agg (wA .i64 14 [32,64,2,13,22,6,11,25,7,18,3,17,19,10])),(1,.slice (some ⟨0,o,none⟩) l cp)],[(a,t)]⟩
abbrev fs2B (_:fs2A_c a t o l cp N):FS:=⟨false,54,[(1,.slice (some ⟨0,o,none⟩) l cp),(2,.pointer (some ⟨1,0,none⟩))],[(a,t),((wA .i64 14 [32,64,2,13,22,6,11,25,7,18,3,17,19,10]),(50,(0,0)))]⟩
theorem fs20:fs2A_R [0] (fs2A k_1) .normal (fun z_=>z_=fs2B k_1):=rn_ev (yty.enf tab0 1) fs2A_h mixed _ none [] [] 1 (fun j M=>by kernel_rfl) A0 rfl
abbrev fs2C (_:fs2A_c a t o l cp N):FS:=⟨false,54,[(1,.slice (some ⟨0,o,none⟩) l cp),(2,.pointer (some ⟨1,0,none⟩)),(5,.int .i64 64)],[(a,t),((wA .i64 14 [32,64,2,13,22,6,11,25,7,18,3,17,19,10]),(50,(0,0)))]⟩
theorem fs21:fs2A_R [1,0] (fs2B k_1) .normal (fun z_=>z_=fs2C k_1):=rn_ev (yty.enf tab0 1) fs2A_h mixed _ none [] [] 4 (fun j M=>by kernel_rfl) A0 rfl
structure fs2D_c (_:fs2A_c a t o l cp N) (cap:Nat):Prop where
  hc:l≤cap
variable {cap:Nat} {k_2:fs2D_c k_1 cap}
abbrev fs2D (_:fs2D_c k_1 cap):FS:=⟨false,54,[(1,.slice (some ⟨0,o,none⟩) l cp),(2,.pointer (some ⟨1,0,none⟩)),(5,.int .i64 64),(6,.slice (some ⟨2,0,none⟩) l cap)],[(a,t),((wA .i64 14 [32,64,2,13,22,6,11,25,7,18,3,17,19,10]),(50,(0,0))),((wA .u8 cap N),(5,(0,0)))]⟩
theorem fs22:fs2A_R [1,1,0] (fs2C k_1) .normal (fun z_=>∃(cap:Nat) (k_2:fs2D_c k_1 cap),z_=fs2D k_2):=by
  have⟨hu,hN,hl⟩:=id k_1
  refine rn_reg none (by kernel_rfl) fun j c0 ch0=> ?_
  refine rl_app (yty.enf tab0 1) apB apB.ht 2 [] [] 1 [(a,t),((wA .i64 14 [32,64,2,13,22,6,11,25,7,18,3,17,19,10]),(50,(0,0))),((wA .u8 0 []),(5,(0,0)))] 2 0 0 ([]:List Int) N (.slice (some ⟨0,o,none⟩) l cp) (some 15) (by kernel_rfl) A0 rfl (by simp) (SrcOk.app (x:= [_,_]) hu) (by simp only[List.length_nil];omega) fun n1 k1 M1 c1_ e1_ hn1 hk1=> ?_
  try simp only[zL] at hn1
  obtain rfl:n1=l:=by omega
  exact rl_end (E:=(yty.enf tab0 1)) _ [] [] 1 (fun M=>by kernel_rfl) A0 ⟨k1,⟨by omega⟩,rfl⟩
structure fs2L_c (_:fs2A_c a t o l cp N) (Z k n cap:Nat) (X:List Int):Prop where
  hX:X=N ++ [128] ++ List.replicate k 0
  hXl:X.length=n
  hn:n=l+1+k
  hc:n≤cap
  hZ:Z=(120 - (l+1)%64)%64
  hk:k≤Z
variable {Z k n:Nat} {X:List Int} {k_3:fs2L_c k_1 Z k n cap X}
abbrev fs2L (_:fs2L_c k_1 Z k n cap X):FS:=⟨false,54,[(1,.slice (some ⟨0,o,none⟩) l cp),(2,.pointer (some ⟨1,0,none⟩)),(5,.int .i64 64),(6,.slice (some ⟨2,0,none⟩) n cap)],[(a,t),((wA .i64 14 [32,64,2,13,22,6,11,25,7,18,3,17,19,10]),(50,(0,0))),((wA .u8 cap X),(5,(0,0)))]⟩
theorem fs23:fs2A_R [1,1,1,0] (fs2D k_2) .normal (fun z_=>∃(k1:Nat) (k_3:fs2L_c k_1 ((120 - (l+1)%64)%64) 0 (l+1) k1 (N ++ [128])),z_=fs2L k_3):=by
  have⟨hu,hN,hl⟩:=id k_1
  have⟨hc⟩:=id k_2
  refine rn_reg (some (false,3)) (by kernel_rfl) fun j c0 ch0=> ?_
  refine rl_app (yty.enf tab0 1) apB apB.ht 2 [] [] 1 [(a,t),((wA .i64 14 [32,64,2,13,22,6,11,25,7,18,3,17,19,10]),(50,(0,0))),((wA .u8 cap N),(5,(0,0))),((wA .u8 1 [128]),(5,(0,0)))] 2 l cap N ([128]:List Int) (.slice (some ⟨3,0,none⟩) 1 1) (some 18) (by kernel_rfl) A0 (by omega) (by omega) (src_wA (i:=3) rfl rfl (by decide)) (by simp only[List.length_cons,List.length_nil];omega) fun n1 k1 M1 c1_ e1_ hn1 hk1=> ?_
  try simp only[zL] at hn1
  obtain rfl:n1=l+1:=by omega
  exact rl_end (E:=(yty.enf tab0 1)) _ [] [] 1 (fun M=>by kernel_rfl) A0 ⟨k1,⟨by simp,by simp only[List.length_append,List.length_cons,List.length_nil];omega,rfl,by omega,rfl,Nat.zero_le _⟩,rfl⟩
theorem fs24 (hlt:k<Z):fs2A_R [1,1,1,1,0,0,0,0] (fs2L k_3) .normal (fun z_=>z_=fs2L k_3):=by
  have⟨hu,hN,hl⟩:=id k_1
  have⟨hX,hXl,hn,hc,hZ,hk⟩:=id k_3
  exact rn_ev (yty.enf tab0 1) fs2A_h mixed _ none [some (.int .i64 ((n%64:Nat):Int)),none,none,none,some (.bool true)] [(6,(((64:Int)≠0)∧(Int.tmod (n:Int) 64)=((n%64:Nat):Int))),(6,((4:Int)≠0)),(3,(!decide (((n%64:Nat):Int)=56))=true)] 0 (fun j M=>by kernel_rfl) (A1 ⟨(by decide),(by exact tmodN n 64)⟩ (A1 (by decide) (A1 (neT (by omega)) A0))) rfl
structure fs2M_c (_:fs2A_c a t o l cp N) (Z k n cap:Nat) (X:List Int):Prop where
  hX:X=N ++ [128] ++ List.replicate k 0
  hXl:X.length=n
  hn:n=l+1+k
  hc:n≤cap
  hZ:Z=(120 - (l+1)%64)%64
  hk:k=Z
variable {k_4:fs2M_c k_1 Z k n cap X}
abbrev fs2M (_:fs2M_c k_1 Z k n cap X):FS:=⟨false,54,[(1,.slice (some ⟨0,o,none⟩) l cp),(2,.pointer (some ⟨1,0,none⟩)),(5,.int .i64 64),(6,.slice (some ⟨2,0,none⟩) n cap)],[(a,t),((wA .i64 14 [32,64,2,13,22,6,11,25,7,18,3,17,19,10]),(50,(0,0))),((wA .u8 cap X),(5,(0,0)))]⟩
theorem fs25 (hge:¬ k<Z):fs2A_R [1,1,1,1,0,0,0,0] (fs2L k_3) (.exit 0) (fun z_=>∃(k_4:fs2M_c k_1 Z k n cap X),z_=fs2M k_4):=by
  have⟨hu,hN,hl⟩:=id k_1
  have⟨hX,hXl,hn,hc,hZ,hk⟩:=id k_3
  exact rn_ev (yty.enf tab0 1) fs2A_h mixed _ none [some (.int .i64 ((n%64:Nat):Int)),none,none,none,some (.bool false)] [(6,(((64:Int)≠0)∧(Int.tmod (n:Int) 64)=((n%64:Nat):Int))),(6,((4:Int)≠0)),(3,(!decide (((n%64:Nat):Int)=56))=false)] 0 (fun j M=>by kernel_rfl) (A1 ⟨(by decide),(by exact tmodN n 64)⟩ (A1 (by decide) (A1 (neF (by omega)) A0))) ⟨⟨hX,hXl,hn,hc,hZ,by omega⟩,rfl⟩
theorem fs26 (hlt:k<Z):fs2A_R [1,1,1,1,0,0,0,1,0] (fs2L k_3) .normal (fun z_=>∃(k1:Nat) (k_3:fs2L_c k_1 Z (k+1) (n+1) k1 (X ++ [0])),z_=fs2L k_3):=by
  have⟨hu,hN,hl⟩:=id k_1
  have⟨hX,hXl,hn,hc,hZ,hk⟩:=id k_3
  refine rn_reg (some (false,3)) (by kernel_rfl) fun j c0 ch0=> ?_
  refine rl_app (yty.enf tab0 1) apB apB.ht 2 [] [] 1 [(a,t),((wA .i64 14 [32,64,2,13,22,6,11,25,7,18,3,17,19,10]),(50,(0,0))),((wA .u8 cap X),(5,(0,0))),((wA .u8 1 [0]),(5,(0,0)))] 2 n cap X ([0]:List Int) (.slice (some ⟨3,0,none⟩) 1 1) (some 31) (by kernel_rfl) A0 (by omega) (by omega) (src_wA (i:=3) rfl rfl (by decide)) (by simp only[List.length_cons,List.length_nil];omega) fun n1 k1 M1 c1_ e1_ hn1 hk1=> ?_
  try simp only[zL] at hn1
  obtain rfl:n1=n+1:=by omega
  exact rl_end (E:=(yty.enf tab0 1)) _ [] [] 1 (fun M=>by kernel_rfl) A0 ⟨k1,⟨rep_cat hX,by simp only[List.length_append,List.length_cons,List.length_nil];omega,by omega,by omega,hZ,by omega⟩,rfl⟩
theorem fs29 (hlt:k<Z):fs2A_R [1,1,1,1,0,0,0,1] (fs2L k_3) .normal (fun z_=>∃(k1:Nat) (k_3:fs2L_c k_1 Z (k+1) (n+1) k1 (X ++ [0])),z_=fs2L k_3):=rn_block (k:=1) (w:= [1,1,1,1,0,0,0,1]) (by kernel_rfl) (fs26 hlt)
theorem fs27 (hlt:k<Z):fs2A_R [1,1,1,1,0,0,0] (fs2L k_3) .normal (fun z_=>∃(k11:Nat) (k_3:fs2L_c k_1 Z (k+1) (n+1) k11 (X ++ [0])),z_=fs2L k_3):=by
  refine rn_seq (w:= [1,1,1,1,0,0,0]) (by kernel_rfl) (fs24 hlt) ?_
  rintro _ rfl
  exact(fs29 hlt)
theorem fs28:fs2A_R [1,1,1,1,0] (fs2L k_3) .normal (fun z_=>∃(k n cap:Nat) (X:List Int) (k_4:fs2M_c k_1 Z k n cap X),z_=fs2M k_4):=by
  refine rn_loop (k:=0) (w:= [1,1,1,1,0]) (by kernel_rfl) (fun n_ z_=>∃(k n cap:Nat) (X:List Int) (k_3:fs2L_c k_1 Z k n cap X),n_=Z - k∧z_=fs2L k_3) _ ⟨_,_,_,_,k_3,rfl,rfl⟩ ?_
  rintro n_ _ ⟨k,n,cap,X,k_3,hn_,rfl⟩
  have⟨hu,hN,hl⟩:=k_1
  have⟨hX,hXl,hn,hc,hZ,hk⟩:=k_3
  by_cases hlt:k<Z
  · exact(fs27 hlt).x fun _ ⟨k11_,k_3,e_⟩=> .inl ⟨rfl,Z - (k+1),by omega,⟨_,_,_,_,k_3,rfl,e_⟩⟩
  · exact(rn_seqx (w:= [1,1,1,1,0,0,0]) (by kernel_rfl) (fs25 hlt) (by simp)).x fun _ ⟨k_4,e_⟩=> .inr ⟨rfl,⟨k,n,cap,X,k_4,e_⟩⟩
abbrev fs2G (_:fs2M_c k_1 Z k n cap X):FS:=⟨false,54,[(2,.pointer (some ⟨1,0,none⟩)),(6,.slice (some ⟨2,0,none⟩) n cap),(7,.int .u64 ((l*8:Nat):Int))],[(a,t),((wA .i64 14 [32,64,2,13,22,6,11,25,7,18,3,17,19,10]),(50,(0,0))),((wA .u8 cap X),(5,(0,0)))]⟩
theorem fs2a:fs2A_R [1,1,1,1,1,0] (fs2M k_4) .normal (fun z_=>z_=fs2G k_4):=by
  have⟨hu,hN,hl⟩:=id k_1
  have⟨hX,hXl,hn,hc,hZ,hk⟩:=id k_4
  exact rn_ev (yty.enf tab0 1) fs2A_h mixed _ none [some (.int .u64 (l:Int)),some (.int .u64 ((l*8:Nat):Int))] [(5,(IntKind.u64.wrap (l:Int))=(l:Int)),(1,(IntKind.u64.wrap ((l:Int)*8))=((l*8:Nat):Int))] 1 (fun j M=>by kernel_rfl) (A1 (wu64 (by omega)) (A1 (wu64 (by omega)) A0)) rfl
abbrev fs2H (_:fs2M_c k_1 Z k n cap X):FS:=⟨false,54,[(2,.pointer (some ⟨1,0,none⟩)),(6,.slice (some ⟨2,0,none⟩) n cap),(7,.int .u64 ((l*8:Nat):Int)),(8,.slice none 0 0)],[(a,t),((wA .i64 14 [32,64,2,13,22,6,11,25,7,18,3,17,19,10]),(50,(0,0))),((wA .u8 cap X),(5,(0,0)))]⟩
theorem fs2b:fs2A_R [1,1,1,1,1,1,0] (fs2G k_4) .normal (fun z_=>z_=fs2H k_4):=rn_ev (yty.enf tab0 1) fs2A_h mixed _ none [] [] 1 (fun j M=>by kernel_rfl) A0 rfl
abbrev fs2I (_:fs2M_c k_1 Z k n cap X):FS:=⟨false,54,[(2,.pointer (some ⟨1,0,none⟩)),(6,.slice (some ⟨2,0,none⟩) n cap),(7,.int .u64 ((l*8:Nat):Int)),(8,.slice none 0 0),(9,.int .i64 0)],[(a,t),((wA .i64 14 [32,64,2,13,22,6,11,25,7,18,3,17,19,10]),(50,(0,0))),((wA .u8 cap X),(5,(0,0)))]⟩
theorem fs2c:fs2A_R [1,1,1,1,1,1,1,0,0] (fs2H k_4) .normal (fun z_=>z_=fs2I k_4):=rn_ev (yty.enf tab0 1) fs2A_h mixed _ none [] [] 1 (fun j M=>by kernel_rfl) A0 rfl
structure fs2J_c (_:fs2M_c k_1 Z k n cap X) (i m c8:Nat) (Y:List Int):Prop where
  hY:Y=beL (l*8) i
  hYl:Y.length=i
  hi:1≤i∧i≤8
  hc8:i≤c8
  hm:m=(l*8) / 256 ^ i
  hmb:m≤8000000000
variable {i m c8:Nat} {Y:List Int} {k_5:fs2J_c k_4 i m c8 Y}
abbrev fs2J (_:fs2J_c k_4 i m c8 Y):FS:=⟨false,54,[(2,.pointer (some ⟨1,0,none⟩)),(6,.slice (some ⟨2,0,none⟩) n cap),(7,.int .u64 (m:Int)),(8,.slice (some ⟨3,0,none⟩) i c8),(9,.int .i64 (i:Int))],[(a,t),((wA .i64 14 [32,64,2,13,22,6,11,25,7,18,3,17,19,10]),(50,(0,0))),((wA .u8 cap X),(5,(0,0))),((wA .u8 c8 Y),(5,(0,0)))]⟩
structure fs2K_c (_:fs2M_c k_1 Z k n cap X) (i m c8:Nat) (Y:List Int):Prop where
  hY:Y=beL (l*8) (i+1)
  hYl:Y.length=i+1
  hi:i+1≤8
  hc8:i+1≤c8
  hm:m=(l*8) / 256 ^ i
  hmb:m≤8000000000
variable {k_6:fs2K_c k_4 i m c8 Y}
abbrev fs2K (_:fs2K_c k_4 i m c8 Y):FS:=⟨false,54,[(2,.pointer (some ⟨1,0,none⟩)),(6,.slice (some ⟨2,0,none⟩) n cap),(7,.int .u64 (m:Int)),(8,.slice (some ⟨3,0,none⟩) (i+1) c8),(9,.int .i64 (i:Int))],[(a,t),((wA .i64 14 [32,64,2,13,22,6,11,25,7,18,3,17,19,10]),(50,(0,0))),((wA .u8 cap X),(5,(0,0))),((wA .u8 c8 Y),(5,(0,0)))]⟩
structure fs2N_c (_:fs2M_c k_1 Z k n cap X) (i m c8:Nat) (Y:List Int):Prop where
  hY:Y=beL (l*8) (i+1)
  hYl:Y.length=i+1
  hi:i+1≤8
  hc8:i+1≤c8
  hm:m=(l*8) / 256 ^ (i+1)
  hmb:m≤8000000000
variable {k_7:fs2N_c k_4 i m c8 Y}
abbrev fs2N (_:fs2N_c k_4 i m c8 Y):FS:=⟨false,54,[(2,.pointer (some ⟨1,0,none⟩)),(6,.slice (some ⟨2,0,none⟩) n cap),(7,.int .u64 (m:Int)),(8,.slice (some ⟨3,0,none⟩) (i+1) c8),(9,.int .i64 (i:Int))],[(a,t),((wA .i64 14 [32,64,2,13,22,6,11,25,7,18,3,17,19,10]),(50,(0,0))),((wA .u8 cap X),(5,(0,0))),((wA .u8 c8 Y),(5,(0,0)))]⟩
theorem fs2d:fs2A_R [1,1,1,1,1,1,1,0,1,0,0,0] (fs2I k_4) .normal (fun z_=>z_=fs2I k_4):=by
  have⟨hu,hN,hl⟩:=id k_1
  have⟨hX,hXl,hn,hc,hZ,hk⟩:=id k_4
  exact rn_ev (yty.enf tab0 1) fs2A_h mixed _ none [none,none,some (.bool true)] [(6,((4:Int)≠0)),(1,true=true)] 0 (fun j M=>by kernel_rfl) (A1 (by decide) (A1 (by first|rfl|assumption) A0)) rfl
theorem fs2e (hlt:i<8):fs2A_R [1,1,1,1,1,1,1,0,1,0,0,0] (fs2J k_5) .normal (fun z_=>z_=fs2J k_5):=by
  have⟨hu,hN,hl⟩:=id k_1
  have⟨hX,hXl,hn,hc,hZ,hk⟩:=id k_4
  have⟨hY,hYl,hi,hc8,hm,hmb⟩:=id k_5
  exact rn_ev (yty.enf tab0 1) fs2A_h mixed _ none [none,none,some (.bool true)] [(6,((4:Int)≠0)),(1,(decide ((i:Int)<8))=true)] 0 (fun j M=>by kernel_rfl) (A1 (by decide) (A1 (decide_eq_true (by omega)) A0)) rfl
structure fs2P_c (_:fs2M_c k_1 Z k n cap X) (i m c8:Nat) (Y:List Int):Prop where
  hY:Y=beL (l*8) i
  hYl:Y.length=i
  hi:i=8
  hc8:i≤c8
  hm:m=(l*8) / 256 ^ i
  hmb:m≤8000000000
variable {k_8:fs2P_c k_4 i m c8 Y}
abbrev fs2P (_:fs2P_c k_4 i m c8 Y):FS:=⟨false,54,[(2,.pointer (some ⟨1,0,none⟩)),(6,.slice (some ⟨2,0,none⟩) n cap),(7,.int .u64 (m:Int)),(8,.slice (some ⟨3,0,none⟩) i c8),(9,.int .i64 (i:Int))],[(a,t),((wA .i64 14 [32,64,2,13,22,6,11,25,7,18,3,17,19,10]),(50,(0,0))),((wA .u8 cap X),(5,(0,0))),((wA .u8 c8 Y),(5,(0,0)))]⟩
theorem fs2f (hge:¬ i<8):fs2A_R [1,1,1,1,1,1,1,0,1,0,0,0] (fs2J k_5) (.exit 2) (fun z_=>∃(k_8:fs2P_c k_4 i m c8 Y),z_=fs2P k_8):=by
  have⟨hu,hN,hl⟩:=id k_1
  have⟨hX,hXl,hn,hc,hZ,hk⟩:=id k_4
  have⟨hY,hYl,hi,hc8,hm,hmb⟩:=id k_5
  exact rn_ev (yty.enf tab0 1) fs2A_h mixed _ none [none,none,some (.bool false)] [(6,((4:Int)≠0)),(1,(decide ((i:Int)<8))=false)] 0 (fun j M=>by kernel_rfl) (A1 (by decide) (A1 (decide_eq_false (by omega)) A0)) ⟨⟨hY,hYl,by omega,hc8,hm,hmb⟩,rfl⟩
theorem fs2g:fs2A_R [1,1,1,1,1,1,1,0,1,0,0,1,0,0,0] (fs2I k_4) .normal (fun z_=>∃(k1:Nat) (k_6:fs2K_c k_4 0 (l*8) k1 (([((l*8%256:Nat):Int)]:List Int) ++ [])),z_=fs2K k_6):=by
  have⟨hu,hN,hl⟩:=id k_1
  have⟨hX,hXl,hn,hc,hZ,hk⟩:=id k_4
  refine rn_reg none (by kernel_rfl) fun j c0 ch0=> ?_
  refine rl_app (yty.enf tab0 1) apB apB.ht 5 [some (.int .u64 (((l*8)%256:Nat):Int)),some (.int .u8 (((l*8)%256:Nat):Int))] [(2,(((256:Int)≠0)∧(Int.tmod ((l*8:Nat):Int) 256)=(((l*8)%256:Nat):Int))),(1,(IntKind.u8.wrap (((l*8)%256:Nat):Int))=(((l*8)%256:Nat):Int))] 1 [(a,t),((wA .i64 14 [32,64,2,13,22,6,11,25,7,18,3,17,19,10]),(50,(0,0))),((wA .u8 cap X),(5,(0,0))),((wA .u8 1 [(((l*8)%256:Nat):Int)]),(5,(0,0)))] 3 1 1 ([((l*8%256:Nat):Int)]:List Int) ([]:List Int) (.slice none 0 0) (some 48) (by kernel_rfl) (A1 ⟨(by decide),(by exact tmodN (l*8) 256)⟩ (A1 (wu8 (by omega)) A0)) rfl (by simp) src_nil (by simp) fun n1 k1 M1 c1_ e1_ hn1 hk1=> ?_
  try simp only[zL] at hn1
  obtain rfl:n1=1:=hn1
  exact rl_end (E:=(yty.enf tab0 1)) _ [] [] 1 (fun M=>by kernel_rfl) A0 ⟨k1,⟨by simp[beL],rfl,by omega,by omega,by simp,by omega⟩,rfl⟩
theorem fs2h (hlt:i<8):fs2A_R [1,1,1,1,1,1,1,0,1,0,0,1,0,0,0] (fs2J k_5) .normal (fun z_=>∃(k1:Nat) (k_6:fs2K_c k_4 i m k1 (([((m%256:Nat):Int)]:List Int) ++ Y)),z_=fs2K k_6):=by
  have⟨hu,hN,hl⟩:=id k_1
  have⟨hX,hXl,hn,hc,hZ,hk⟩:=id k_4
  have⟨hY,hYl,hi,hc8,hm,hmb⟩:=id k_5
  refine rn_reg (some (true,3)) (by kernel_rfl) fun j c0 ch0=> ?_
  refine rl_app (yty.enf tab0 1) apB apB.ht 5 [some (.int .u64 ((m%256:Nat):Int)),some (.int .u8 ((m%256:Nat):Int))] [(2,(((256:Int)≠0)∧(Int.tmod (m:Int) 256)=((m%256:Nat):Int))),(1,(IntKind.u8.wrap ((m%256:Nat):Int))=((m%256:Nat):Int))] 1 [(a,t),((wA .i64 14 [32,64,2,13,22,6,11,25,7,18,3,17,19,10]),(50,(0,0))),((wA .u8 cap X),(5,(0,0))),((wA .u8 c8 Y),(5,(0,0))),((wA .u8 1 [((m%256:Nat):Int)]),(5,(0,0)))] 4 1 1 ([((m%256:Nat):Int)]:List Int) Y (.slice (some ⟨3,0,none⟩) i c8) (some 48) (by kernel_rfl) (A1 ⟨(by decide),(by exact tmodN m 256)⟩ (A1 (wu8 (by omega)) A0)) rfl (by simp) (src_wA (i:=3) rfl hYl.symm (by omega)) (by simp only[List.length_cons,List.length_nil];omega) fun n1 k1 M1 c1_ e1_ hn1 hk1=> ?_
  try simp only[zL] at hn1
  obtain rfl:n1=i+1:=by omega
  exact rl_end (E:=(yty.enf tab0 1)) _ [] [] 1 (fun M=>by kernel_rfl) A0 ⟨k1,⟨by rw[hY,hm];rfl,by simp only[List.length_append,List.length_cons,List.length_nil];omega,by omega,by omega,hm,hmb⟩,rfl⟩
theorem fs2i:fs2A_R [1,1,1,1,1,1,1,0,1,0,0,1,0,0,1] (fs2K k_6) .normal (fun z_=>∃(k_7:fs2N_c k_4 i (m / 256) c8 Y),z_=fs2N k_7):=by
  have⟨hu,hN,hl⟩:=id k_1
  have⟨hX,hXl,hn,hc,hZ,hk⟩:=id k_4
  have⟨hY,hYl,hi,hc8,hm,hmb⟩:=id k_6
  exact rn_ev (yty.enf tab0 1) fs2A_h mixed _ none [some (.int .u64 ((m / 256:Nat):Int))] [(2,(((256:Int)≠0)∧(IntKind.u64.wrap (Int.tdiv (m:Int) 256))=((m / 256:Nat):Int)))] 1 (fun j M=>by kernel_rfl) (A1 ⟨(by decide),(by exact tdivN_u64 m 256 (by omega))⟩ A0) ⟨⟨hY,hYl,hi,hc8,by rw[hm,Nat.div_div_eq_div_mul,← Nat.pow_succ],by omega⟩,rfl⟩
theorem fs2j:fs2A_R [1,1,1,1,1,1,1,0,1,0,0,1,1] (fs2N k_7) .normal (fun z_=>∃(k_5:fs2J_c k_4 (i+1) m c8 Y),z_=fs2J k_5):=by
  have⟨hu,hN,hl⟩:=id k_1
  have⟨hX,hXl,hn,hc,hZ,hk⟩:=id k_4
  have⟨hY,hYl,hi,hc8,hm,hmb⟩:=id k_7
  exact rn_ev (yty.enf tab0 1) fs2A_h mixed _ none [some (.int .i64 ((i+1:Nat):Int))] [(3,(IntKind.i64.wrap ((i:Int)+1))=((i+1:Nat):Int))] 1 (fun j M=>by kernel_rfl) (A1 (wi64 (by omega)) A0) ⟨⟨hY,hYl,by omega,hc8,hm,hmb⟩,rfl⟩
theorem fs2l:fs2A_R [1,1,1,1,1,1,1,0,1,0,0,1,0,0] (fs2I k_4) .normal (fun z_=>∃(k10:Nat) (k_7:fs2N_c k_4 0 ((l*8) / 256) k10 (([((l*8%256:Nat):Int)]:List Int) ++ [])),z_=fs2N k_7):=by
  refine rn_seq (w:= [1,1,1,1,1,1,1,0,1,0,0,1,0,0]) (by kernel_rfl) fs2g ?_
  rintro _ ⟨k10,k_6,rfl⟩
  exact(fs2i).mono fun _ ⟨k_7,e_⟩=>⟨k10,k_7,e_⟩
theorem fs2k:fs2A_R [1,1,1,1,1,1,1,0,1,0,0,1,0] (fs2I k_4) .normal (fun z_=>∃(k10:Nat) (k_7:fs2N_c k_4 0 ((l*8) / 256) k10 (([((l*8%256:Nat):Int)]:List Int) ++ [])),z_=fs2N k_7):=rn_block (k:=3) (w:= [1,1,1,1,1,1,1,0,1,0,0,1,0]) (by kernel_rfl) fs2l
theorem fs2n (hlt:i<8):fs2A_R [1,1,1,1,1,1,1,0,1,0,0,1,0,0] (fs2J k_5) .normal (fun z_=>∃(k10:Nat) (k_7:fs2N_c k_4 i (m / 256) k10 (([((m%256:Nat):Int)]:List Int) ++ Y)),z_=fs2N k_7):=by
  refine rn_seq (w:= [1,1,1,1,1,1,1,0,1,0,0,1,0,0]) (by kernel_rfl) (fs2h hlt) ?_
  rintro _ ⟨k10,k_6,rfl⟩
  exact(fs2i).mono fun _ ⟨k_7,e_⟩=>⟨k10,k_7,e_⟩
theorem fs2m (hlt:i<8):fs2A_R [1,1,1,1,1,1,1,0,1,0,0,1,0] (fs2J k_5) .normal (fun z_=>∃(k10:Nat) (k_7:fs2N_c k_4 i (m / 256) k10 (([((m%256:Nat):Int)]:List Int) ++ Y)),z_=fs2N k_7):=rn_block (k:=3) (w:= [1,1,1,1,1,1,1,0,1,0,0,1,0]) (by kernel_rfl) (fs2n hlt)
theorem fs2o:fs2A_R [1,1,1,1,1,1,1,0,1,0,0] (fs2I k_4) .normal (fun z_=>∃(k101:Nat) (k_5:fs2J_c k_4 (0+1) ((l*8) / 256) k101 (([((l*8%256:Nat):Int)]:List Int) ++ [])),z_=fs2J k_5):=by
  refine rn_seq (w:= [1,1,1,1,1,1,1,0,1,0,0]) (by kernel_rfl) fs2d ?_
  rintro _ rfl
  refine rn_seq (w:= [1,1,1,1,1,1,1,0,1,0,0,1]) (by kernel_rfl) fs2k ?_
  rintro _ ⟨k101,k_7,rfl⟩
  exact(fs2j).mono fun _ ⟨k_5,e_⟩=>⟨k101,k_5,e_⟩
theorem fs2p (hlt:i<8):fs2A_R [1,1,1,1,1,1,1,0,1,0,0] (fs2J k_5) .normal (fun z_=>∃(k101:Nat) (k_5:fs2J_c k_4 (i+1) (m / 256) k101 (([((m%256:Nat):Int)]:List Int) ++ Y)),z_=fs2J k_5):=by
  refine rn_seq (w:= [1,1,1,1,1,1,1,0,1,0,0]) (by kernel_rfl) (fs2e hlt) ?_
  rintro _ rfl
  refine rn_seq (w:= [1,1,1,1,1,1,1,0,1,0,0,1]) (by kernel_rfl) (fs2m hlt) ?_
  rintro _ ⟨k101,k_7,rfl⟩
  exact(fs2j).mono fun _ ⟨k_5,e_⟩=>⟨k101,k_5,e_⟩
theorem fs2q:fs2A_R [1,1,1,1,1,1,1,0,1] (fs2I k_4) .normal (fun z_=>∃(i m c8:Nat) (Y:List Int) (k_8:fs2P_c k_4 i m c8 Y),z_=fs2P k_8):=by
  refine rn_loop (k:=2) (w:= [1,1,1,1,1,1,1,0,1]) (by kernel_rfl) (fun n_ z_=>(n_=8 - 0∧z_=fs2I k_4)∨∃(i m c8:Nat) (Y:List Int) (k_5:fs2J_c k_4 i m c8 Y),n_=8 - i∧z_=fs2J k_5) _ (.inl ⟨rfl,rfl⟩) ?_
  rintro n_ _ (⟨hn_,rfl⟩|⟨i,m,c8,Y,k_5,hn_,rfl⟩)
  · have ⟨hu, hN, hl⟩ := k_1
    have⟨hX,hXl,hn,hc,hZ,hk⟩:=k_4
    have hlt:0<8:=by omega
    exact fs2o.x fun _ ⟨k101_,k_5,e_⟩=> .inl ⟨rfl,8 - (0+1),by omega,.inr ⟨_,_,_,_,k_5,rfl,e_⟩⟩
  · have ⟨hu, hN, hl⟩ := k_1
    have⟨hX,hXl,hn,hc,hZ,hk⟩:=k_4
    have⟨hY,hYl,hi,hc8,hm,hmb⟩:=k_5
    by_cases hlt:i<8
    · exact(fs2p hlt).x fun _ ⟨k101_,k_5,e_⟩=> .inl ⟨rfl,8 - (i+1),by omega,.inr ⟨_,_,_,_,k_5,rfl,e_⟩⟩
    · exact(rn_seqx (w:= [1,1,1,1,1,1,1,0,1,0,0]) (by kernel_rfl) (fs2f hlt) (by simp)).x fun _ ⟨k_8,e_⟩=> .inr ⟨rfl,⟨i,m,c8,Y,k_8,e_⟩⟩
theorem fs2r:fs2A_R [1,1,1,1,1,1,1,0] (fs2H k_4) .normal (fun z_=>∃(i1 m1 c81:Nat) (Y1:List Int) (k_8:fs2P_c k_4 i1 m1 c81 Y1),z_=fs2P k_8):=by
  refine rn_seq (w:= [1,1,1,1,1,1,1,0]) (by kernel_rfl) fs2c ?_
  rintro _ rfl
  exact fs2q
structure fs2O_c (_:fs2P_c k_4 i m c8 Y) (n9 c9:Nat):Prop where
  hn9:n9=n+i
  hc9:n9≤c9
variable {n9 c9:Nat} {k_9:fs2O_c k_8 n9 c9}
abbrev fs2O (_:fs2O_c k_8 n9 c9):FS:=⟨false,54,[(4,.slice (some ⟨2,0,none⟩) n9 c9)],[(a,t),((wA .i64 14 [32,64,2,13,22,6,11,25,7,18,3,17,19,10]),(50,(0,0))),((wA .u8 c9 (X ++ Y)),(5,(0,0))),((wA .u8 c8 Y),(5,(0,0)))]⟩
theorem fs2s:fs2A_R [1,1,1,1,1,1,1,1,0] (fs2P k_8) .normal (fun z_=>∃(n1 k1:Nat) (k_9:fs2O_c k_8 n1 k1),z_=fs2O k_9):=by
  have⟨hu,hN,hl⟩:=id k_1
  have⟨hX,hXl,hn,hc,hZ,hk⟩:=id k_4
  have⟨hY,hYl,hi,hc8,hm,hmb⟩:=id k_8
  refine rn_reg none (by kernel_rfl) fun j c0 ch0=> ?_
  refine rl_app (yty.enf tab0 1) apB apB.ht 2 [] [] 2 [(a,t),((wA .i64 14 [32,64,2,13,22,6,11,25,7,18,3,17,19,10]),(50,(0,0))),((wA .u8 cap X),(5,(0,0))),((wA .u8 c8 Y),(5,(0,0)))] 2 n cap X Y (.slice (some ⟨3,0,none⟩) i c8) (some 53) (by kernel_rfl) A0 (by omega) (by omega) (src_wA (i:=3) rfl hYl.symm (by omega)) (by omega) fun n1 k1 M1 c1_ e1_ hn1 hk1=> ?_
  try simp only[zL] at hn1
  exact rl_end (E:=(yty.enf tab0 1)) _ [] [] 1 (fun M=>by kernel_rfl) A0 ⟨n1,k1,⟨by omega,by omega⟩,rfl⟩
theorem fs2t:fs2A_R [1,1,1,1,1,1,1,1,1] (fs2O k_9) .ret (fun z_=>z_=fs2O k_9):=rn_ev (yty.enf tab0 1) fs2A_h mixed _ none [] [] 0 (fun j M=>by kernel_rfl) A0 rfl
theorem fs2u':fs2A_R [] (fs2A k_1) .ret (fun z_=>∃(cap2 k13 k4 n4 cap4:Nat) (X4:List Int) (i17 m17 c817:Nat) (Y17:List Int) (n18 k18:Nat) (k_4:fs2M_c k_1 ((120 - (l+1)%64)%64) k4 n4 cap4 X4) (k_8:fs2P_c k_4 i17 m17 c817 Y17) (k_9:fs2O_c k_8 n18 k18),z_=fs2O k_9):=by
  refine rn_seq (w:= []) (by kernel_rfl) fs20 ?_
  rintro _ rfl
  refine rn_seq (w:= [1]) (by kernel_rfl) fs21 ?_
  rintro _ rfl
  refine rn_seq (w:= [1,1]) (by kernel_rfl) fs22 ?_
  rintro _ ⟨cap2,k_2,rfl⟩
  refine rn_seq (w:= [1,1,1]) (by kernel_rfl) fs23 ?_
  rintro _ ⟨k13,k_3,rfl⟩
  refine rn_seq (w:= [1,1,1,1]) (by kernel_rfl) fs28 ?_
  rintro _ ⟨k4,n4,cap4,X4,k_4,rfl⟩
  refine rn_seq (w:= [1,1,1,1,1]) (by kernel_rfl) fs2a ?_
  rintro _ rfl
  refine rn_seq (w:= [1,1,1,1,1,1]) (by kernel_rfl) fs2b ?_
  rintro _ rfl
  refine rn_seq (w:= [1,1,1,1,1,1,1]) (by kernel_rfl) fs2r ?_
  rintro _ ⟨i17,m17,c817,Y17,k_8,rfl⟩
  refine rn_seq (w:= [1,1,1,1,1,1,1,1]) (by kernel_rfl) fs2s ?_
  rintro _ ⟨n18,k18,k_9,rfl⟩
  exact(fs2t).mono fun _ e_=>⟨cap2,k13,k4,n4,cap4,X4,i17,m17,c817,Y17,n18,k18,k_4,k_8,k_9,e_⟩
abbrev fs2A_s (a:Array Value) (t:Tq) (o l cp:Nat) (N:List Int) (j:Nat→Value):List Value:=([.agg (wA .i64 14 [32,64,2,13,22,6,11,25,7,18,3,17,19,10]),.slice (some ⟨0,o,none⟩) l cp] ++ (JU 52))
abbrev fs2A_m (a:Array Value) (t:Tq) (o l cp:Nat) (N:List Int):List Mb:= [(a,t)]
abbrev fs2O_s (a:Array Value) (t:Tq) (o l cp:Nat) (N:List Int) (Z k n cap:Nat) (X:List Int) (i m c8:Nat) (Y:List Int) (n9 c9:Nat) (j:Nat→Value):List Value:=(J j 0 4 ++ ([.slice (some ⟨2,0,none⟩) n9 c9] ++ (J j 5 49)))
abbrev fs2O_m (a:Array Value) (t:Tq) (o l cp:Nat) (N:List Int) (Z k n cap:Nat) (X:List Int) (i m c8:Nat) (Y:List Int) (n9 c9:Nat):List Mb:= [(a,t),((wA .i64 14 [32,64,2,13,22,6,11,25,7,18,3,17,19,10]),(50,(0,0))),((wA .u8 c9 (X ++ Y)),(5,(0,0))),((wA .u8 c8 Y),(5,(0,0)))]
theorem fs2u (a:Array Value) (t:Tq) (o l cp:Nat) (N:List Int) (j:Nat→Value) (hu:SrcOk .u8 [(a,t)] (.slice (some ⟨0,o,none⟩) l cp) N) (hN:N.length=l) (hl:l≤1000000000)  :Runs Tryd.prog (cAt [] (bdy Tryd.f47)) ⟨fs2A_s a t o l cp N j,fs2A_m a t o l cp N,c0,ch0⟩ (fun e s=>e= .ret∧∃(cap2:Nat) (k13:Nat) (k4:Nat) (n4:Nat) (cap4:Nat) (X4:List Int) (i17:Nat) (m17:Nat) (c817:Nat) (Y17:List Int) (n18:Nat) (k18:Nat),∃j c ch,(X4=N ++ [128] ++ List.replicate k4 0)∧(X4.length=n4)∧(n4=l+1+k4)∧(n4≤cap4)∧(((120 - (l+1)%64)%64)=(120 - (l+1)%64)%64)∧(k4=((120 - (l+1)%64)%64))∧(Y17=beL (l*8) i17)∧(Y17.length=i17)∧(i17=8)∧(i17≤c817)∧(m17=(l*8) / 256 ^ i17)∧(m17≤8000000000)∧(n18=n4+i17)∧(n18≤k18)∧s=⟨fs2O_s a t o l cp N ((120 - (l+1)%64)%64) k4 n4 cap4 X4 i17 m17 c817 Y17 n18 k18 j,fs2O_m a t o l cp N ((120 - (l+1)%64)%64) k4 n4 cap4 X4 i17 m17 c817 Y17 n18 k18,c,ch⟩) 1:=by
  refine(Rn.old (fs2u' (k_1:=(⟨hu,hN,hl⟩:fs2A_c a t o l cp N))) j (by kernel_rfl)).mono ?_
  rintro e s ⟨rfl,_,⟨cap2,k13,k4,n4,cap4,X4,i17,m17,c817,Y17,n18,k18,k_4,k_8,k_9,rfl⟩,j,c,ch,rfl⟩
  have⟨x_hX,x_hXl,x_hn,x_hc,x_hZ,x_hk⟩:=k_4
  have⟨x_hY,x_hYl,x_hi,x_hc8,x_hm,x_hmb⟩:=k_8
  have⟨x_hn9,x_hc9⟩:=k_9
  exact⟨rfl,cap2,k13,k4,n4,cap4,X4,i17,m17,c817,Y17,n18,k18,j,c,ch,x_hX,x_hXl,x_hn,x_hc,x_hZ,x_hk,x_hY,x_hYl,x_hi,x_hc8,x_hm,x_hmb,x_hn9,x_hc9,by kernel_rfl⟩
def fn2A_h (i:Nat):Hn:=if i=4 then⟨10,[],[],[],[]⟩ else⟨0,[],[],[],[]⟩
abbrev fn2A_R (w:List Nat) (S:FS) (e:Exit) (K:FS→Prop):Prop:=Rn Tryd.prog (cAt w (bdy Tryd.f47)) S e K 0
structure fn2A_c (N:List Int):Prop where
  hN:N= []
variable {N:List Int} {k_1:fn2A_c N}
abbrev fn2A (_:fn2A_c N):FS:=⟨true,54,[(0,.agg (wA .i64 14 [32,64,2,13,22,6,11,25,7,18,3,17,19,10])),(1,.slice none 0 0)],[]⟩
abbrev fn2B (_:fn2A_c N):FS:=⟨false,54,[(1,.slice none 0 0),(2,.pointer (some ⟨0,0,none⟩))],[((wA .i64 14 [32,64,2,13,22,6,11,25,7,18,3,17,19,10]),(50,(0,0)))]⟩
theorem fn20:fn2A_R [0] (fn2A k_1) .normal (fun z_=>z_=fn2B k_1):=rn_ev (yty.en tab0) fn2A_h mixed _ none [] [] 1 (fun j M=>by kernel_rfl) A0 rfl
abbrev fn2C (_:fn2A_c N):FS:=⟨false,54,[(1,.slice none 0 0),(2,.pointer (some ⟨0,0,none⟩)),(5,.int .i64 64)],[((wA .i64 14 [32,64,2,13,22,6,11,25,7,18,3,17,19,10]),(50,(0,0)))]⟩
theorem fn21:fn2A_R [1,0] (fn2B k_1) .normal (fun z_=>z_=fn2C k_1):=rn_ev (yty.en tab0) fn2A_h mixed _ none [] [] 4 (fun j M=>by kernel_rfl) A0 rfl
structure fn2D_c (_:fn2A_c N) (cap:Nat):Prop where
  hc:0≤cap
variable {cap:Nat} {k_2:fn2D_c k_1 cap}
abbrev fn2D (_:fn2D_c k_1 cap):FS:=⟨false,54,[(1,.slice none 0 0),(2,.pointer (some ⟨0,0,none⟩)),(5,.int .i64 64),(6,.slice (some ⟨1,0,none⟩) 0 cap)],[((wA .i64 14 [32,64,2,13,22,6,11,25,7,18,3,17,19,10]),(50,(0,0))),((wA .u8 cap N),(5,(0,0)))]⟩
theorem fn22:fn2A_R [1,1,0] (fn2C k_1) .normal (fun z_=>∃(cap:Nat) (k_2:fn2D_c k_1 cap),z_=fn2D k_2):=by
  have⟨hN⟩:=id k_1
  refine rn_reg none (by kernel_rfl) fun j c0 ch0=> ?_
  refine rl_app (yty.en tab0) apB apB.ht 2 [] [] 1 [((wA .i64 14 [32,64,2,13,22,6,11,25,7,18,3,17,19,10]),(50,(0,0))),((wA .u8 0 []),(5,(0,0)))] 1 0 0 ([]:List Int) N (.slice none 0 0) (some 15) (by kernel_rfl) A0 rfl (by simp) (by subst hN;exact src_nil) (by subst hN;decide) fun n1 k1 M1 c1_ e1_ hn1 hk1=> ?_
  try simp only[zL] at hn1
  obtain rfl:n1=0:=by rw[hn1,hN];rfl
  exact rl_end (E:=(yty.en tab0)) _ [] [] 1 (fun M=>by kernel_rfl) A0 ⟨k1,⟨by omega⟩,rfl⟩
structure fn2L_c (_:fn2A_c N) (Z k n cap:Nat) (X:List Int):Prop where
  hX:X=N ++ [128] ++ List.replicate k 0
  hXl:X.length=n
  hn:n=0+1+k
  hc:n≤cap
  hZ:Z=(120 - (0+1)%64)%64
  hk:k≤Z
variable {Z k n:Nat} {X:List Int} {k_3:fn2L_c k_1 Z k n cap X}
abbrev fn2L (_:fn2L_c k_1 Z k n cap X):FS:=⟨false,54,[(1,.slice none 0 0),(2,.pointer (some ⟨0,0,none⟩)),(5,.int .i64 64),(6,.slice (some ⟨1,0,none⟩) n cap)],[((wA .i64 14 [32,64,2,13,22,6,11,25,7,18,3,17,19,10]),(50,(0,0))),((wA .u8 cap X),(5,(0,0)))]⟩
theorem fn23:fn2A_R [1,1,1,0] (fn2D k_2) .normal (fun z_=>∃(k1:Nat) (k_3:fn2L_c k_1 ((120 - (0+1)%64)%64) 0 (0+1) k1 (N ++ [128])),z_=fn2L k_3):=by
  have⟨hN⟩:=id k_1
  have⟨hc⟩:=id k_2
  refine rn_reg (some (false,2)) (by kernel_rfl) fun j c0 ch0=> ?_
  refine rl_app (yty.en tab0) apB apB.ht 2 [] [] 1 [((wA .i64 14 [32,64,2,13,22,6,11,25,7,18,3,17,19,10]),(50,(0,0))),((wA .u8 cap N),(5,(0,0))),((wA .u8 1 [128]),(5,(0,0)))] 1 0 cap N ([128]:List Int) (.slice (some ⟨2,0,none⟩) 1 1) (some 18) (by kernel_rfl) A0 (by rw[hN];rfl) (by rw[hN];exact hc) (src_wA (i:=2) rfl rfl (by decide)) (by rw[hN];decide) fun n1 k1 M1 c1_ e1_ hn1 hk1=> ?_
  try simp only[zL] at hn1
  obtain rfl:n1=0+1:=by rw[hn1,hN];rfl
  exact rl_end (E:=(yty.en tab0)) _ [] [] 1 (fun M=>by kernel_rfl) A0 ⟨k1,⟨by simp,by rw[hN];rfl,rfl,by rw[hN] at hn1;simp at hn1;omega,rfl,Nat.zero_le _⟩,rfl⟩
theorem fn24 (hlt:k<Z):fn2A_R [1,1,1,1,0,0,0,0] (fn2L k_3) .normal (fun z_=>z_=fn2L k_3):=by
  have⟨hN⟩:=id k_1
  have⟨hX,hXl,hn,hc,hZ,hk⟩:=id k_3
  exact rn_ev (yty.en tab0) fn2A_h mixed _ none [some (.int .i64 ((n%64:Nat):Int)),none,none,none,some (.bool true)] [(6,(((64:Int)≠0)∧(Int.tmod (n:Int) 64)=((n%64:Nat):Int))),(6,((4:Int)≠0)),(3,(!decide (((n%64:Nat):Int)=56))=true)] 0 (fun j M=>by kernel_rfl) (A1 ⟨(by decide),(by exact tmodN n 64)⟩ (A1 (by decide) (A1 (neT (by omega)) A0))) rfl
structure fn2M_c (_:fn2A_c N) (Z k n cap:Nat) (X:List Int):Prop where
  hX:X=N ++ [128] ++ List.replicate k 0
  hXl:X.length=n
  hn:n=0+1+k
  hc:n≤cap
  hZ:Z=(120 - (0+1)%64)%64
  hk:k=Z
variable {k_4:fn2M_c k_1 Z k n cap X}
abbrev fn2M (_:fn2M_c k_1 Z k n cap X):FS:=⟨false,54,[(1,.slice none 0 0),(2,.pointer (some ⟨0,0,none⟩)),(5,.int .i64 64),(6,.slice (some ⟨1,0,none⟩) n cap)],[((wA .i64 14 [32,64,2,13,22,6,11,25,7,18,3,17,19,10]),(50,(0,0))),((wA .u8 cap X),(5,(0,0)))]⟩
theorem fn25 (hge:¬ k<Z):fn2A_R [1,1,1,1,0,0,0,0] (fn2L k_3) (.exit 0) (fun z_=>∃(k_4:fn2M_c k_1 Z k n cap X),z_=fn2M k_4):=by
  have⟨hN⟩:=id k_1
  have⟨hX,hXl,hn,hc,hZ,hk⟩:=id k_3
  exact rn_ev (yty.en tab0) fn2A_h mixed _ none [some (.int .i64 ((n%64:Nat):Int)),none,none,none,some (.bool false)] [(6,(((64:Int)≠0)∧(Int.tmod (n:Int) 64)=((n%64:Nat):Int))),(6,((4:Int)≠0)),(3,(!decide (((n%64:Nat):Int)=56))=false)] 0 (fun j M=>by kernel_rfl) (A1 ⟨(by decide),(by exact tmodN n 64)⟩ (A1 (by decide) (A1 (neF (by omega)) A0))) ⟨⟨hX,hXl,hn,hc,hZ,by omega⟩,rfl⟩
theorem fn26 (hlt:k<Z):fn2A_R [1,1,1,1,0,0,0,1,0] (fn2L k_3) .normal (fun z_=>∃(k1:Nat) (k_3:fn2L_c k_1 Z (k+1) (n+1) k1 (X ++ [0])),z_=fn2L k_3):=by
  have⟨hN⟩:=id k_1
  have⟨hX,hXl,hn,hc,hZ,hk⟩:=id k_3
  refine rn_reg (some (false,2)) (by kernel_rfl) fun j c0 ch0=> ?_
  refine rl_app (yty.en tab0) apB apB.ht 2 [] [] 1 [((wA .i64 14 [32,64,2,13,22,6,11,25,7,18,3,17,19,10]),(50,(0,0))),((wA .u8 cap X),(5,(0,0))),((wA .u8 1 [0]),(5,(0,0)))] 1 n cap X ([0]:List Int) (.slice (some ⟨2,0,none⟩) 1 1) (some 31) (by kernel_rfl) A0 (by omega) (by omega) (src_wA (i:=2) rfl rfl (by decide)) (by simp only[List.length_cons,List.length_nil];omega) fun n1 k1 M1 c1_ e1_ hn1 hk1=> ?_
  try simp only[zL] at hn1
  obtain rfl:n1=n+1:=by omega
  exact rl_end (E:=(yty.en tab0)) _ [] [] 1 (fun M=>by kernel_rfl) A0 ⟨k1,⟨rep_cat hX,by simp only[List.length_append,List.length_cons,List.length_nil];omega,by omega,by omega,hZ,by omega⟩,rfl⟩
theorem fn29 (hlt:k<Z):fn2A_R [1,1,1,1,0,0,0,1] (fn2L k_3) .normal (fun z_=>∃(k1:Nat) (k_3:fn2L_c k_1 Z (k+1) (n+1) k1 (X ++ [0])),z_=fn2L k_3):=rn_block (k:=1) (w:= [1,1,1,1,0,0,0,1]) (by kernel_rfl) (fn26 hlt)
theorem fn27 (hlt:k<Z):fn2A_R [1,1,1,1,0,0,0] (fn2L k_3) .normal (fun z_=>∃(k11:Nat) (k_3:fn2L_c k_1 Z (k+1) (n+1) k11 (X ++ [0])),z_=fn2L k_3):=by
  refine rn_seq (w:= [1,1,1,1,0,0,0]) (by kernel_rfl) (fn24 hlt) ?_
  rintro _ rfl
  exact(fn29 hlt)
theorem fn28:fn2A_R [1,1,1,1,0] (fn2L k_3) .normal (fun z_=>∃(k n cap:Nat) (X:List Int) (k_4:fn2M_c k_1 Z k n cap X),z_=fn2M k_4):=by
  refine rn_loop (k:=0) (w:= [1,1,1,1,0]) (by kernel_rfl) (fun n_ z_=>∃(k n cap:Nat) (X:List Int) (k_3:fn2L_c k_1 Z k n cap X),n_=Z - k∧z_=fn2L k_3) _ ⟨_,_,_,_,k_3,rfl,rfl⟩ ?_
  rintro n_ _ ⟨k,n,cap,X,k_3,hn_,rfl⟩
  have⟨hN⟩:=k_1
  have⟨hX,hXl,hn,hc,hZ,hk⟩:=k_3
  by_cases hlt:k<Z
  · exact(fn27 hlt).x fun _ ⟨k11_,k_3,e_⟩=> .inl ⟨rfl,Z - (k+1),by omega,⟨_,_,_,_,k_3,rfl,e_⟩⟩
  · exact(rn_seqx (w:= [1,1,1,1,0,0,0]) (by kernel_rfl) (fn25 hlt) (by simp)).x fun _ ⟨k_4,e_⟩=> .inr ⟨rfl,⟨k,n,cap,X,k_4,e_⟩⟩
abbrev fn2G (_:fn2M_c k_1 Z k n cap X):FS:=⟨false,54,[(2,.pointer (some ⟨0,0,none⟩)),(6,.slice (some ⟨1,0,none⟩) n cap),(7,.int .u64 0)],[((wA .i64 14 [32,64,2,13,22,6,11,25,7,18,3,17,19,10]),(50,(0,0))),((wA .u8 cap X),(5,(0,0)))]⟩
theorem fn2a:fn2A_R [1,1,1,1,1,0] (fn2M k_4) .normal (fun z_=>z_=fn2G k_4):=rn_ev (yty.en tab0) fn2A_h mixed _ none [] [] 5 (fun j M=>by kernel_rfl) A0 rfl
abbrev fn2H (_:fn2M_c k_1 Z k n cap X):FS:=⟨false,54,[(2,.pointer (some ⟨0,0,none⟩)),(6,.slice (some ⟨1,0,none⟩) n cap),(7,.int .u64 0),(8,.slice none 0 0)],[((wA .i64 14 [32,64,2,13,22,6,11,25,7,18,3,17,19,10]),(50,(0,0))),((wA .u8 cap X),(5,(0,0)))]⟩
theorem fn2b:fn2A_R [1,1,1,1,1,1,0] (fn2G k_4) .normal (fun z_=>z_=fn2H k_4):=rn_ev (yty.en tab0) fn2A_h mixed _ none [] [] 1 (fun j M=>by kernel_rfl) A0 rfl
abbrev fn2I (_:fn2M_c k_1 Z k n cap X):FS:=⟨false,54,[(2,.pointer (some ⟨0,0,none⟩)),(6,.slice (some ⟨1,0,none⟩) n cap),(7,.int .u64 0),(8,.slice none 0 0),(9,.int .i64 0)],[((wA .i64 14 [32,64,2,13,22,6,11,25,7,18,3,17,19,10]),(50,(0,0))),((wA .u8 cap X),(5,(0,0)))]⟩
theorem fn2c:fn2A_R [1,1,1,1,1,1,1,0,0] (fn2H k_4) .normal (fun z_=>z_=fn2I k_4):=rn_ev (yty.en tab0) fn2A_h mixed _ none [] [] 1 (fun j M=>by kernel_rfl) A0 rfl
structure fn2J_c (_:fn2M_c k_1 Z k n cap X) (i m c8:Nat) (Y:List Int):Prop where
  hY:Y=beL 0 i
  hYl:Y.length=i
  hi:1≤i∧i≤8
  hc8:i≤c8
  hm:m=0 / 256 ^ i
  hmb:m≤8000000000
variable {i m c8:Nat} {Y:List Int} {k_5:fn2J_c k_4 i m c8 Y}
abbrev fn2J (_:fn2J_c k_4 i m c8 Y):FS:=⟨false,54,[(2,.pointer (some ⟨0,0,none⟩)),(6,.slice (some ⟨1,0,none⟩) n cap),(7,.int .u64 (m:Int)),(8,.slice (some ⟨2,0,none⟩) i c8),(9,.int .i64 (i:Int))],[((wA .i64 14 [32,64,2,13,22,6,11,25,7,18,3,17,19,10]),(50,(0,0))),((wA .u8 cap X),(5,(0,0))),((wA .u8 c8 Y),(5,(0,0)))]⟩
structure fn2K_c (_:fn2M_c k_1 Z k n cap X) (i m c8:Nat) (Y:List Int):Prop where
  hY:Y=beL 0 (i+1)
  hYl:Y.length=i+1
  hi:i+1≤8
  hc8:i+1≤c8
  hm:m=0 / 256 ^ i
  hmb:m≤8000000000
variable {k_6:fn2K_c k_4 i m c8 Y}
abbrev fn2K (_:fn2K_c k_4 i m c8 Y):FS:=⟨false,54,[(2,.pointer (some ⟨0,0,none⟩)),(6,.slice (some ⟨1,0,none⟩) n cap),(7,.int .u64 (m:Int)),(8,.slice (some ⟨2,0,none⟩) (i+1) c8),(9,.int .i64 (i:Int))],[((wA .i64 14 [32,64,2,13,22,6,11,25,7,18,3,17,19,10]),(50,(0,0))),((wA .u8 cap X),(5,(0,0))),((wA .u8 c8 Y),(5,(0,0)))]⟩
structure fn2N_c (_:fn2M_c k_1 Z k n cap X) (i m c8:Nat) (Y:List Int):Prop where
  hY:Y=beL 0 (i+1)
  hYl:Y.length=i+1
  hi:i+1≤8
  hc8:i+1≤c8
  hm:m=0 / 256 ^ (i+1)
  hmb:m≤8000000000
variable {k_7:fn2N_c k_4 i m c8 Y}
abbrev fn2N (_:fn2N_c k_4 i m c8 Y):FS:=⟨false,54,[(2,.pointer (some ⟨0,0,none⟩)),(6,.slice (some ⟨1,0,none⟩) n cap),(7,.int .u64 (m:Int)),(8,.slice (some ⟨2,0,none⟩) (i+1) c8),(9,.int .i64 (i:Int))],[((wA .i64 14 [32,64,2,13,22,6,11,25,7,18,3,17,19,10]),(50,(0,0))),((wA .u8 cap X),(5,(0,0))),((wA .u8 c8 Y),(5,(0,0)))]⟩
theorem fn2d:fn2A_R [1,1,1,1,1,1,1,0,1,0,0,0] (fn2I k_4) .normal (fun z_=>z_=fn2I k_4):=by
  have⟨hN⟩:=id k_1
  have⟨hX,hXl,hn,hc,hZ,hk⟩:=id k_4
  exact rn_ev (yty.en tab0) fn2A_h mixed _ none [none,none,some (.bool true)] [(6,((4:Int)≠0)),(1,true=true)] 0 (fun j M=>by kernel_rfl) (A1 (by decide) (A1 (by first|rfl|assumption) A0)) rfl
theorem fn2e (hlt:i<8):fn2A_R [1,1,1,1,1,1,1,0,1,0,0,0] (fn2J k_5) .normal (fun z_=>z_=fn2J k_5):=by
  have⟨hN⟩:=id k_1
  have⟨hX,hXl,hn,hc,hZ,hk⟩:=id k_4
  have⟨hY,hYl,hi,hc8,hm,hmb⟩:=id k_5
  exact rn_ev (yty.en tab0) fn2A_h mixed _ none [none,none,some (.bool true)] [(6,((4:Int)≠0)),(1,(decide ((i:Int)<8))=true)] 0 (fun j M=>by kernel_rfl) (A1 (by decide) (A1 (decide_eq_true (by omega)) A0)) rfl
structure fn2P_c (_:fn2M_c k_1 Z k n cap X) (i m c8:Nat) (Y:List Int):Prop where
  hY:Y=beL 0 i
  hYl:Y.length=i
  hi:i=8
  hc8:i≤c8
  hm:m=0 / 256 ^ i
  hmb:m≤8000000000
variable {k_8:fn2P_c k_4 i m c8 Y}
abbrev fn2P (_:fn2P_c k_4 i m c8 Y):FS:=⟨false,54,[(2,.pointer (some ⟨0,0,none⟩)),(6,.slice (some ⟨1,0,none⟩) n cap),(7,.int .u64 (m:Int)),(8,.slice (some ⟨2,0,none⟩) i c8),(9,.int .i64 (i:Int))],[((wA .i64 14 [32,64,2,13,22,6,11,25,7,18,3,17,19,10]),(50,(0,0))),((wA .u8 cap X),(5,(0,0))),((wA .u8 c8 Y),(5,(0,0)))]⟩
theorem fn2f (hge:¬ i<8):fn2A_R [1,1,1,1,1,1,1,0,1,0,0,0] (fn2J k_5) (.exit 2) (fun z_=>∃(k_8:fn2P_c k_4 i m c8 Y),z_=fn2P k_8):=by
  have⟨hN⟩:=id k_1
  have⟨hX,hXl,hn,hc,hZ,hk⟩:=id k_4
  have⟨hY,hYl,hi,hc8,hm,hmb⟩:=id k_5
  exact rn_ev (yty.en tab0) fn2A_h mixed _ none [none,none,some (.bool false)] [(6,((4:Int)≠0)),(1,(decide ((i:Int)<8))=false)] 0 (fun j M=>by kernel_rfl) (A1 (by decide) (A1 (decide_eq_false (by omega)) A0)) ⟨⟨hY,hYl,by omega,hc8,hm,hmb⟩,rfl⟩
theorem fn2g:fn2A_R [1,1,1,1,1,1,1,0,1,0,0,1,0,0,0] (fn2I k_4) .normal (fun z_=>∃(k1:Nat) (k_6:fn2K_c k_4 0 0 k1 (([0]:List Int) ++ [])),z_=fn2K k_6):=by
  have⟨hN⟩:=id k_1
  have⟨hX,hXl,hn,hc,hZ,hk⟩:=id k_4
  refine rn_reg none (by kernel_rfl) fun j c0 ch0=> ?_
  refine rl_app (yty.en tab0) apB apB.ht 5 [] [(2,((256:Int)≠0))] 2 [((wA .i64 14 [32,64,2,13,22,6,11,25,7,18,3,17,19,10]),(50,(0,0))),((wA .u8 cap X),(5,(0,0))),((wA .u8 1 [0]),(5,(0,0)))] 2 1 1 ([0]:List Int) ([]:List Int) (.slice none 0 0) (some 48) (by kernel_rfl) (A1 (by decide) A0) rfl (by simp) src_nil (by simp) fun n1 k1 M1 c1_ e1_ hn1 hk1=> ?_
  try simp only[zL] at hn1
  obtain rfl:n1=1:=hn1
  exact rl_end (E:=(yty.en tab0)) _ [] [] 1 (fun M=>by kernel_rfl) A0 ⟨k1,⟨by simp[beL],rfl,by omega,by omega,by simp,by omega⟩,rfl⟩
theorem fn2h (hlt:i<8):fn2A_R [1,1,1,1,1,1,1,0,1,0,0,1,0,0,0] (fn2J k_5) .normal (fun z_=>∃(k1:Nat) (k_6:fn2K_c k_4 i m k1 (([((m%256:Nat):Int)]:List Int) ++ Y)),z_=fn2K k_6):=by
  have⟨hN⟩:=id k_1
  have⟨hX,hXl,hn,hc,hZ,hk⟩:=id k_4
  have⟨hY,hYl,hi,hc8,hm,hmb⟩:=id k_5
  refine rn_reg (some (true,2)) (by kernel_rfl) fun j c0 ch0=> ?_
  refine rl_app (yty.en tab0) apB apB.ht 5 [some (.int .u64 ((m%256:Nat):Int)),some (.int .u8 ((m%256:Nat):Int))] [(2,(((256:Int)≠0)∧(Int.tmod (m:Int) 256)=((m%256:Nat):Int))),(1,(IntKind.u8.wrap ((m%256:Nat):Int))=((m%256:Nat):Int))] 1 [((wA .i64 14 [32,64,2,13,22,6,11,25,7,18,3,17,19,10]),(50,(0,0))),((wA .u8 cap X),(5,(0,0))),((wA .u8 c8 Y),(5,(0,0))),((wA .u8 1 [((m%256:Nat):Int)]),(5,(0,0)))] 3 1 1 ([((m%256:Nat):Int)]:List Int) Y (.slice (some ⟨2,0,none⟩) i c8) (some 48) (by kernel_rfl) (A1 ⟨(by decide),(by exact tmodN m 256)⟩ (A1 (wu8 (by omega)) A0)) rfl (by simp) (src_wA (i:=2) rfl hYl.symm (by omega)) (by simp only[List.length_cons,List.length_nil];omega) fun n1 k1 M1 c1_ e1_ hn1 hk1=> ?_
  try simp only[zL] at hn1
  obtain rfl:n1=i+1:=by omega
  exact rl_end (E:=(yty.en tab0)) _ [] [] 1 (fun M=>by kernel_rfl) A0 ⟨k1,⟨by rw[hY,hm];rfl,by simp only[List.length_append,List.length_cons,List.length_nil];omega,by omega,by omega,hm,hmb⟩,rfl⟩
theorem fn2i:fn2A_R [1,1,1,1,1,1,1,0,1,0,0,1,0,0,1] (fn2K k_6) .normal (fun z_=>∃(k_7:fn2N_c k_4 i (m / 256) c8 Y),z_=fn2N k_7):=by
  have⟨hN⟩:=id k_1
  have⟨hX,hXl,hn,hc,hZ,hk⟩:=id k_4
  have⟨hY,hYl,hi,hc8,hm,hmb⟩:=id k_6
  exact rn_ev (yty.en tab0) fn2A_h mixed _ none [some (.int .u64 ((m / 256:Nat):Int))] [(2,(((256:Int)≠0)∧(IntKind.u64.wrap (Int.tdiv (m:Int) 256))=((m / 256:Nat):Int)))] 1 (fun j M=>by kernel_rfl) (A1 ⟨(by decide),(by exact tdivN_u64 m 256 (by omega))⟩ A0) ⟨⟨hY,hYl,hi,hc8,by rw[hm,Nat.div_div_eq_div_mul,← Nat.pow_succ],by omega⟩,rfl⟩
theorem fn2j:fn2A_R [1,1,1,1,1,1,1,0,1,0,0,1,1] (fn2N k_7) .normal (fun z_=>∃(k_5:fn2J_c k_4 (i+1) m c8 Y),z_=fn2J k_5):=by
  have⟨hN⟩:=id k_1
  have⟨hX,hXl,hn,hc,hZ,hk⟩:=id k_4
  have⟨hY,hYl,hi,hc8,hm,hmb⟩:=id k_7
  exact rn_ev (yty.en tab0) fn2A_h mixed _ none [some (.int .i64 ((i+1:Nat):Int))] [(3,(IntKind.i64.wrap ((i:Int)+1))=((i+1:Nat):Int))] 1 (fun j M=>by kernel_rfl) (A1 (wi64 (by omega)) A0) ⟨⟨hY,hYl,by omega,hc8,hm,hmb⟩,rfl⟩
theorem fn2l:fn2A_R [1,1,1,1,1,1,1,0,1,0,0,1,0,0] (fn2I k_4) .normal (fun z_=>∃(k10:Nat) (k_7:fn2N_c k_4 0 (0 / 256) k10 (([0]:List Int) ++ [])),z_=fn2N k_7):=by
  refine rn_seq (w:= [1,1,1,1,1,1,1,0,1,0,0,1,0,0]) (by kernel_rfl) fn2g ?_
  rintro _ ⟨k10,k_6,rfl⟩
  exact(fn2i).mono fun _ ⟨k_7,e_⟩=>⟨k10,k_7,e_⟩
theorem fn2k:fn2A_R [1,1,1,1,1,1,1,0,1,0,0,1,0] (fn2I k_4) .normal (fun z_=>∃(k10:Nat) (k_7:fn2N_c k_4 0 (0 / 256) k10 (([0]:List Int) ++ [])),z_=fn2N k_7):=rn_block (k:=3) (w:= [1,1,1,1,1,1,1,0,1,0,0,1,0]) (by kernel_rfl) fn2l
theorem fn2n (hlt:i<8):fn2A_R [1,1,1,1,1,1,1,0,1,0,0,1,0,0] (fn2J k_5) .normal (fun z_=>∃(k10:Nat) (k_7:fn2N_c k_4 i (m / 256) k10 (([((m%256:Nat):Int)]:List Int) ++ Y)),z_=fn2N k_7):=by
  refine rn_seq (w:= [1,1,1,1,1,1,1,0,1,0,0,1,0,0]) (by kernel_rfl) (fn2h hlt) ?_
  rintro _ ⟨k10,k_6,rfl⟩
  exact(fn2i).mono fun _ ⟨k_7,e_⟩=>⟨k10,k_7,e_⟩
theorem fn2m (hlt:i<8):fn2A_R [1,1,1,1,1,1,1,0,1,0,0,1,0] (fn2J k_5) .normal (fun z_=>∃(k10:Nat) (k_7:fn2N_c k_4 i (m / 256) k10 (([((m%256:Nat):Int)]:List Int) ++ Y)),z_=fn2N k_7):=rn_block (k:=3) (w:= [1,1,1,1,1,1,1,0,1,0,0,1,0]) (by kernel_rfl) (fn2n hlt)
theorem fn2o:fn2A_R [1,1,1,1,1,1,1,0,1,0,0] (fn2I k_4) .normal (fun z_=>∃(k101:Nat) (k_5:fn2J_c k_4 (0+1) (0 / 256) k101 (([0]:List Int) ++ [])),z_=fn2J k_5):=by
  refine rn_seq (w:= [1,1,1,1,1,1,1,0,1,0,0]) (by kernel_rfl) fn2d ?_
  rintro _ rfl
  refine rn_seq (w:= [1,1,1,1,1,1,1,0,1,0,0,1]) (by kernel_rfl) fn2k ?_
  rintro _ ⟨k101,k_7,rfl⟩
  exact(fn2j).mono fun _ ⟨k_5,e_⟩=>⟨k101,k_5,e_⟩
theorem fn2p (hlt:i<8):fn2A_R [1,1,1,1,1,1,1,0,1,0,0] (fn2J k_5) .normal (fun z_=>∃(k101:Nat) (k_5:fn2J_c k_4 (i+1) (m / 256) k101 (([((m%256:Nat):Int)]:List Int) ++ Y)),z_=fn2J k_5):=by
  refine rn_seq (w:= [1,1,1,1,1,1,1,0,1,0,0]) (by kernel_rfl) (fn2e hlt) ?_
  rintro _ rfl
  refine rn_seq (w:= [1,1,1,1,1,1,1,0,1,0,0,1]) (by kernel_rfl) (fn2m hlt) ?_
  rintro _ ⟨k101,k_7,rfl⟩
  exact(fn2j).mono fun _ ⟨k_5,e_⟩=>⟨k101,k_5,e_⟩
theorem fn2q:fn2A_R [1,1,1,1,1,1,1,0,1] (fn2I k_4) .normal (fun z_=>∃(i m c8:Nat) (Y:List Int) (k_8:fn2P_c k_4 i m c8 Y),z_=fn2P k_8):=by
  refine rn_loop (k:=2) (w:= [1,1,1,1,1,1,1,0,1]) (by kernel_rfl) (fun n_ z_=>(n_=8 - 0∧z_=fn2I k_4)∨∃(i m c8:Nat) (Y:List Int) (k_5:fn2J_c k_4 i m c8 Y),n_=8 - i∧z_=fn2J k_5) _ (.inl ⟨rfl,rfl⟩) ?_
  rintro n_ _ (⟨hn_,rfl⟩|⟨i,m,c8,Y,k_5,hn_,rfl⟩)
  · have ⟨hN⟩ := k_1
    have⟨hX,hXl,hn,hc,hZ,hk⟩:=k_4
    have hlt:0<8:=by omega
    exact fn2o.x fun _ ⟨k101_,k_5,e_⟩=> .inl ⟨rfl,8 - (0+1),by omega,.inr ⟨_,_,_,_,k_5,rfl,e_⟩⟩
  · have ⟨hN⟩ := k_1
    have⟨hX,hXl,hn,hc,hZ,hk⟩:=k_4
    have⟨hY,hYl,hi,hc8,hm,hmb⟩:=k_5
    by_cases hlt:i<8
    · exact(fn2p hlt).x fun _ ⟨k101_,k_5,e_⟩=> .inl ⟨rfl,8 - (i+1),by omega,.inr ⟨_,_,_,_,k_5,rfl,e_⟩⟩
    · exact(rn_seqx (w:= [1,1,1,1,1,1,1,0,1,0,0]) (by kernel_rfl) (fn2f hlt) (by simp)).x fun _ ⟨k_8,e_⟩=> .inr ⟨rfl,⟨i,m,c8,Y,k_8,e_⟩⟩
theorem fn2r:fn2A_R [1,1,1,1,1,1,1,0] (fn2H k_4) .normal (fun z_=>∃(i1 m1 c81:Nat) (Y1:List Int) (k_8:fn2P_c k_4 i1 m1 c81 Y1),z_=fn2P k_8):=by
  refine rn_seq (w:= [1,1,1,1,1,1,1,0]) (by kernel_rfl) fn2c ?_
  rintro _ rfl
  exact fn2q
structure fn2O_c (_:fn2P_c k_4 i m c8 Y) (n9 c9:Nat):Prop where
  hn9:n9=n+i
  hc9:n9≤c9
variable {n9 c9:Nat} {k_9:fn2O_c k_8 n9 c9}
abbrev fn2O (_:fn2O_c k_8 n9 c9):FS:=⟨false,54,[(4,.slice (some ⟨1,0,none⟩) n9 c9)],[((wA .i64 14 [32,64,2,13,22,6,11,25,7,18,3,17,19,10]),(50,(0,0))),((wA .u8 c9 (X ++ Y)),(5,(0,0))),((wA .u8 c8 Y),(5,(0,0)))]⟩
theorem fn2s:fn2A_R [1,1,1,1,1,1,1,1,0] (fn2P k_8) .normal (fun z_=>∃(n1 k1:Nat) (k_9:fn2O_c k_8 n1 k1),z_=fn2O k_9):=by
  have⟨hN⟩:=id k_1
  have⟨hX,hXl,hn,hc,hZ,hk⟩:=id k_4
  have⟨hY,hYl,hi,hc8,hm,hmb⟩:=id k_8
  refine rn_reg none (by kernel_rfl) fun j c0 ch0=> ?_
  refine rl_app (yty.en tab0) apB apB.ht 2 [] [] 2 [((wA .i64 14 [32,64,2,13,22,6,11,25,7,18,3,17,19,10]),(50,(0,0))),((wA .u8 cap X),(5,(0,0))),((wA .u8 c8 Y),(5,(0,0)))] 1 n cap X Y (.slice (some ⟨2,0,none⟩) i c8) (some 53) (by kernel_rfl) A0 (by omega) (by omega) (src_wA (i:=2) rfl hYl.symm (by omega)) (by omega) fun n1 k1 M1 c1_ e1_ hn1 hk1=> ?_
  try simp only[zL] at hn1
  exact rl_end (E:=(yty.en tab0)) _ [] [] 1 (fun M=>by kernel_rfl) A0 ⟨n1,k1,⟨by omega,by omega⟩,rfl⟩
theorem fn2t:fn2A_R [1,1,1,1,1,1,1,1,1] (fn2O k_9) .ret (fun z_=>z_=fn2O k_9):=rn_ev (yty.en tab0) fn2A_h mixed _ none [] [] 0 (fun j M=>by kernel_rfl) A0 rfl
theorem fn2u':fn2A_R [] (fn2A k_1) .ret (fun z_=>∃(cap2 k13 k4 n4 cap4:Nat) (X4:List Int) (i17 m17 c817:Nat) (Y17:List Int) (n18 k18:Nat) (k_4:fn2M_c k_1 ((120 - (0+1)%64)%64) k4 n4 cap4 X4) (k_8:fn2P_c k_4 i17 m17 c817 Y17) (k_9:fn2O_c k_8 n18 k18),z_=fn2O k_9):=by
  refine rn_seq (w:= []) (by kernel_rfl) fn20 ?_
  rintro _ rfl
  refine rn_seq (w:= [1]) (by kernel_rfl) fn21 ?_
  rintro _ rfl
  refine rn_seq (w:= [1,1]) (by kernel_rfl) fn22 ?_
  rintro _ ⟨cap2,k_2,rfl⟩
  refine rn_seq (w:= [1,1,1]) (by kernel_rfl) fn23 ?_
  rintro _ ⟨k13,k_3,rfl⟩
  refine rn_seq (w:= [1,1,1,1]) (by kernel_rfl) fn28 ?_
  rintro _ ⟨k4,n4,cap4,X4,k_4,rfl⟩
  refine rn_seq (w:= [1,1,1,1,1]) (by kernel_rfl) fn2a ?_
  rintro _ rfl
  refine rn_seq (w:= [1,1,1,1,1,1]) (by kernel_rfl) fn2b ?_
  rintro _ rfl
  refine rn_seq (w:= [1,1,1,1,1,1,1]) (by kernel_rfl) fn2r ?_
  rintro _ ⟨i17,m17,c817,Y17,k_8,rfl⟩
  refine rn_seq (w:= [1,1,1,1,1,1,1,1]) (by kernel_rfl) fn2s ?_
  rintro _ ⟨n18,k18,k_9,rfl⟩
  exact(fn2t).mono fun _ e_=>⟨cap2,k13,k4,n4,cap4,X4,i17,m17,c817,Y17,n18,k18,k_4,k_8,k_9,e_⟩
abbrev fn2A_s (N:List Int) (j:Nat→Value):List Value:=([.agg (wA .i64 14 [32,64,2,13,22,6,11,25,7,18,3,17,19,10]),.slice none 0 0] ++ (JU 52))
abbrev fn2A_m (N:List Int):List Mb:= []
abbrev fn2O_s (N:List Int) (Z k n cap:Nat) (X:List Int) (i m c8:Nat) (Y:List Int) (n9 c9:Nat) (j:Nat→Value):List Value:=(J j 0 4 ++ ([.slice (some ⟨1,0,none⟩) n9 c9] ++ (J j 5 49)))
abbrev fn2O_m (N:List Int) (Z k n cap:Nat) (X:List Int) (i m c8:Nat) (Y:List Int) (n9 c9:Nat):List Mb:= [((wA .i64 14 [32,64,2,13,22,6,11,25,7,18,3,17,19,10]),(50,(0,0))),((wA .u8 c9 (X ++ Y)),(5,(0,0))),((wA .u8 c8 Y),(5,(0,0)))]
theorem fn2u (N:List Int) (j:Nat→Value) (hN:N= [])  :Runs Tryd.prog (cAt [] (bdy Tryd.f47)) ⟨fn2A_s N j,fn2A_m N,c0,ch0⟩ (fun e s=>e= .ret∧∃(cap2:Nat) (k13:Nat) (k4:Nat) (n4:Nat) (cap4:Nat) (X4:List Int) (i17:Nat) (m17:Nat) (c817:Nat) (Y17:List Int) (n18:Nat) (k18:Nat),∃j c ch,(X4=N ++ [128] ++ List.replicate k4 0)∧(X4.length=n4)∧(n4=0+1+k4)∧(n4≤cap4)∧(((120 - (0+1)%64)%64)=(120 - (0+1)%64)%64)∧(k4=((120 - (0+1)%64)%64))∧(Y17=beL 0 i17)∧(Y17.length=i17)∧(i17=8)∧(i17≤c817)∧(m17=0 / 256 ^ i17)∧(m17≤8000000000)∧(n18=n4+i17)∧(n18≤k18)∧s=⟨fn2O_s N ((120 - (0+1)%64)%64) k4 n4 cap4 X4 i17 m17 c817 Y17 n18 k18 j,fn2O_m N ((120 - (0+1)%64)%64) k4 n4 cap4 X4 i17 m17 c817 Y17 n18 k18,c,ch⟩) 0:=by
  refine(Rn.old (fn2u' (k_1:=(⟨hN⟩:fn2A_c N))) j (by kernel_rfl)).mono ?_
  rintro e s ⟨rfl,_,⟨cap2,k13,k4,n4,cap4,X4,i17,m17,c817,Y17,n18,k18,k_4,k_8,k_9,rfl⟩,j,c,ch,rfl⟩
  have⟨x_hX,x_hXl,x_hn,x_hc,x_hZ,x_hk⟩:=k_4
  have⟨x_hY,x_hYl,x_hi,x_hc8,x_hm,x_hmb⟩:=k_8
  have⟨x_hn9,x_hc9⟩:=k_9
  exact⟨rfl,cap2,k13,k4,n4,cap4,X4,i17,m17,c817,Y17,n18,k18,j,c,ch,x_hX,x_hXl,x_hn,x_hc,x_hZ,x_hk,x_hY,x_hYl,x_hi,x_hc8,x_hm,x_hmb,x_hn9,x_hc9,by kernel_rfl⟩
def fs5A_h (i:Nat):Hn:=if i=4 then⟨10,[],[],[],[]⟩ else⟨0,[],[],[],[]⟩
abbrev fs5A_R (w:List Nat) (S:FS) (e:Exit) (K:FS→Prop):Prop:=Rn Tryd.prog (cAt w (bdy Tryd.f47)) S e K 1
structure fs5A_c (a:Array Value) (t:Tq) (o l cp:Nat) (N:List Int):Prop where
  hu:SrcOk .u8 [(a,t)] (.slice (some ⟨0,o,none⟩) l cp) N
  hN:N.length=l
  hl:l≤1000000000
variable {a:Array Value} {t:Tq} {o l cp:Nat} {N:List Int} {k_1:fs5A_c a t o l cp N}
abbrev fs5A (_:fs5A_c a t o l cp N):FS:=⟨true,54,[(0,.agg (wA .i64 14 [64,80,28,34,39,14,18,41,1,8,7,19,61,6])),(1,.slice (some ⟨0,o,none⟩) l cp)],[(a,t)]⟩
abbrev fs5B (_:fs5A_c a t o l cp N):FS:=⟨false,54,[(1,.slice (some ⟨0,o,none⟩) l cp),(2,.pointer (some ⟨1,0,none⟩))],[(a,t),((wA .i64 14 [64,80,28,34,39,14,18,41,1,8,7,19,61,6]),(50,(0,0)))]⟩
theorem fs50:fs5A_R [0] (fs5A k_1) .normal (fun z_=>z_=fs5B k_1):=rn_ev (yty.enf tab0 1) fs5A_h mixed _ none [] [] 1 (fun j M=>by kernel_rfl) A0 rfl
abbrev fs5C (_:fs5A_c a t o l cp N):FS:=⟨false,54,[(1,.slice (some ⟨0,o,none⟩) l cp),(2,.pointer (some ⟨1,0,none⟩)),(5,.int .i64 128)],[(a,t),((wA .i64 14 [64,80,28,34,39,14,18,41,1,8,7,19,61,6]),(50,(0,0)))]⟩
theorem fs51:fs5A_R [1,0] (fs5B k_1) .normal (fun z_=>z_=fs5C k_1):=rn_ev (yty.enf tab0 1) fs5A_h mixed _ none [] [] 4 (fun j M=>by kernel_rfl) A0 rfl
structure fs5D_c (_:fs5A_c a t o l cp N) (cap:Nat):Prop where
  hc:l≤cap
variable {cap:Nat} {k_2:fs5D_c k_1 cap}
abbrev fs5D (_:fs5D_c k_1 cap):FS:=⟨false,54,[(1,.slice (some ⟨0,o,none⟩) l cp),(2,.pointer (some ⟨1,0,none⟩)),(5,.int .i64 128),(6,.slice (some ⟨2,0,none⟩) l cap)],[(a,t),((wA .i64 14 [64,80,28,34,39,14,18,41,1,8,7,19,61,6]),(50,(0,0))),((wA .u8 cap N),(5,(0,0)))]⟩
theorem fs52:fs5A_R [1,1,0] (fs5C k_1) .normal (fun z_=>∃(cap:Nat) (k_2:fs5D_c k_1 cap),z_=fs5D k_2):=by
  have⟨hu,hN,hl⟩:=id k_1
  refine rn_reg none (by kernel_rfl) fun j c0 ch0=> ?_
  refine rl_app (yty.enf tab0 1) apB apB.ht 2 [] [] 1 [(a,t),((wA .i64 14 [64,80,28,34,39,14,18,41,1,8,7,19,61,6]),(50,(0,0))),((wA .u8 0 []),(5,(0,0)))] 2 0 0 ([]:List Int) N (.slice (some ⟨0,o,none⟩) l cp) (some 15) (by kernel_rfl) A0 rfl (by simp) (SrcOk.app (x:= [_,_]) hu) (by simp only[List.length_nil];omega) fun n1 k1 M1 c1_ e1_ hn1 hk1=> ?_
  try simp only[zL] at hn1
  obtain rfl:n1=l:=by omega
  exact rl_end (E:=(yty.enf tab0 1)) _ [] [] 1 (fun M=>by kernel_rfl) A0 ⟨k1,⟨by omega⟩,rfl⟩
structure fs5L_c (_:fs5A_c a t o l cp N) (Z k n cap:Nat) (X:List Int):Prop where
  hX:X=N ++ [128] ++ List.replicate k 0
  hXl:X.length=n
  hn:n=l+1+k
  hc:n≤cap
  hZ:Z=(240 - (l+1)%128)%128
  hk:k≤Z
variable {Z k n:Nat} {X:List Int} {k_3:fs5L_c k_1 Z k n cap X}
abbrev fs5L (_:fs5L_c k_1 Z k n cap X):FS:=⟨false,54,[(1,.slice (some ⟨0,o,none⟩) l cp),(2,.pointer (some ⟨1,0,none⟩)),(5,.int .i64 128),(6,.slice (some ⟨2,0,none⟩) n cap)],[(a,t),((wA .i64 14 [64,80,28,34,39,14,18,41,1,8,7,19,61,6]),(50,(0,0))),((wA .u8 cap X),(5,(0,0)))]⟩
theorem fs53:fs5A_R [1,1,1,0] (fs5D k_2) .normal (fun z_=>∃(k1:Nat) (k_3:fs5L_c k_1 ((240 - (l+1)%128)%128) 0 (l+1) k1 (N ++ [128])),z_=fs5L k_3):=by
  have⟨hu,hN,hl⟩:=id k_1
  have⟨hc⟩:=id k_2
  refine rn_reg (some (false,3)) (by kernel_rfl) fun j c0 ch0=> ?_
  refine rl_app (yty.enf tab0 1) apB apB.ht 2 [] [] 1 [(a,t),((wA .i64 14 [64,80,28,34,39,14,18,41,1,8,7,19,61,6]),(50,(0,0))),((wA .u8 cap N),(5,(0,0))),((wA .u8 1 [128]),(5,(0,0)))] 2 l cap N ([128]:List Int) (.slice (some ⟨3,0,none⟩) 1 1) (some 18) (by kernel_rfl) A0 (by omega) (by omega) (src_wA (i:=3) rfl rfl (by decide)) (by simp only[List.length_cons,List.length_nil];omega) fun n1 k1 M1 c1_ e1_ hn1 hk1=> ?_
  try simp only[zL] at hn1
  obtain rfl:n1=l+1:=by omega
  exact rl_end (E:=(yty.enf tab0 1)) _ [] [] 1 (fun M=>by kernel_rfl) A0 ⟨k1,⟨by simp,by simp only[List.length_append,List.length_cons,List.length_nil];omega,rfl,by omega,rfl,Nat.zero_le _⟩,rfl⟩
theorem fs54 (hlt:k<Z):fs5A_R [1,1,1,1,0,0,0,0] (fs5L k_3) .normal (fun z_=>z_=fs5L k_3):=by
  have⟨hu,hN,hl⟩:=id k_1
  have⟨hX,hXl,hn,hc,hZ,hk⟩:=id k_3
  exact rn_ev (yty.enf tab0 1) fs5A_h mixed _ none [some (.int .i64 ((n%128:Nat):Int)),none,none,none,some (.bool true)] [(6,(((128:Int)≠0)∧(Int.tmod (n:Int) 128)=((n%128:Nat):Int))),(6,((4:Int)≠0)),(3,(!decide (((n%128:Nat):Int)=112))=true)] 0 (fun j M=>by kernel_rfl) (A1 ⟨(by decide),(by exact tmodN n 128)⟩ (A1 (by decide) (A1 (neT (by omega)) A0))) rfl
structure fs5M_c (_:fs5A_c a t o l cp N) (Z k n cap:Nat) (X:List Int):Prop where
  hX:X=N ++ [128] ++ List.replicate k 0
  hXl:X.length=n
  hn:n=l+1+k
  hc:n≤cap
  hZ:Z=(240 - (l+1)%128)%128
  hk:k=Z
variable {k_4:fs5M_c k_1 Z k n cap X}
abbrev fs5M (_:fs5M_c k_1 Z k n cap X):FS:=⟨false,54,[(1,.slice (some ⟨0,o,none⟩) l cp),(2,.pointer (some ⟨1,0,none⟩)),(5,.int .i64 128),(6,.slice (some ⟨2,0,none⟩) n cap)],[(a,t),((wA .i64 14 [64,80,28,34,39,14,18,41,1,8,7,19,61,6]),(50,(0,0))),((wA .u8 cap X),(5,(0,0)))]⟩
theorem fs55 (hge:¬ k<Z):fs5A_R [1,1,1,1,0,0,0,0] (fs5L k_3) (.exit 0) (fun z_=>∃(k_4:fs5M_c k_1 Z k n cap X),z_=fs5M k_4):=by
  have⟨hu,hN,hl⟩:=id k_1
  have⟨hX,hXl,hn,hc,hZ,hk⟩:=id k_3
  exact rn_ev (yty.enf tab0 1) fs5A_h mixed _ none [some (.int .i64 ((n%128:Nat):Int)),none,none,none,some (.bool false)] [(6,(((128:Int)≠0)∧(Int.tmod (n:Int) 128)=((n%128:Nat):Int))),(6,((4:Int)≠0)),(3,(!decide (((n%128:Nat):Int)=112))=false)] 0 (fun j M=>by kernel_rfl) (A1 ⟨(by decide),(by exact tmodN n 128)⟩ (A1 (by decide) (A1 (neF (by omega)) A0))) ⟨⟨hX,hXl,hn,hc,hZ,by omega⟩,rfl⟩
theorem fs56 (hlt:k<Z):fs5A_R [1,1,1,1,0,0,0,1,0] (fs5L k_3) .normal (fun z_=>∃(k1:Nat) (k_3:fs5L_c k_1 Z (k+1) (n+1) k1 (X ++ [0])),z_=fs5L k_3):=by
  have⟨hu,hN,hl⟩:=id k_1
  have⟨hX,hXl,hn,hc,hZ,hk⟩:=id k_3
  refine rn_reg (some (false,3)) (by kernel_rfl) fun j c0 ch0=> ?_
  refine rl_app (yty.enf tab0 1) apB apB.ht 2 [] [] 1 [(a,t),((wA .i64 14 [64,80,28,34,39,14,18,41,1,8,7,19,61,6]),(50,(0,0))),((wA .u8 cap X),(5,(0,0))),((wA .u8 1 [0]),(5,(0,0)))] 2 n cap X ([0]:List Int) (.slice (some ⟨3,0,none⟩) 1 1) (some 31) (by kernel_rfl) A0 (by omega) (by omega) (src_wA (i:=3) rfl rfl (by decide)) (by simp only[List.length_cons,List.length_nil];omega) fun n1 k1 M1 c1_ e1_ hn1 hk1=> ?_
  try simp only[zL] at hn1
  obtain rfl:n1=n+1:=by omega
  exact rl_end (E:=(yty.enf tab0 1)) _ [] [] 1 (fun M=>by kernel_rfl) A0 ⟨k1,⟨rep_cat hX,by simp only[List.length_append,List.length_cons,List.length_nil];omega,by omega,by omega,hZ,by omega⟩,rfl⟩
theorem fs59 (hlt:k<Z):fs5A_R [1,1,1,1,0,0,0,1] (fs5L k_3) .normal (fun z_=>∃(k1:Nat) (k_3:fs5L_c k_1 Z (k+1) (n+1) k1 (X ++ [0])),z_=fs5L k_3):=rn_block (k:=1) (w:= [1,1,1,1,0,0,0,1]) (by kernel_rfl) (fs56 hlt)
theorem fs57 (hlt:k<Z):fs5A_R [1,1,1,1,0,0,0] (fs5L k_3) .normal (fun z_=>∃(k11:Nat) (k_3:fs5L_c k_1 Z (k+1) (n+1) k11 (X ++ [0])),z_=fs5L k_3):=by
  refine rn_seq (w:= [1,1,1,1,0,0,0]) (by kernel_rfl) (fs54 hlt) ?_
  rintro _ rfl
  exact(fs59 hlt)
theorem fs58:fs5A_R [1,1,1,1,0] (fs5L k_3) .normal (fun z_=>∃(k n cap:Nat) (X:List Int) (k_4:fs5M_c k_1 Z k n cap X),z_=fs5M k_4):=by
  refine rn_loop (k:=0) (w:= [1,1,1,1,0]) (by kernel_rfl) (fun n_ z_=>∃(k n cap:Nat) (X:List Int) (k_3:fs5L_c k_1 Z k n cap X),n_=Z - k∧z_=fs5L k_3) _ ⟨_,_,_,_,k_3,rfl,rfl⟩ ?_
  rintro n_ _ ⟨k,n,cap,X,k_3,hn_,rfl⟩
  have⟨hu,hN,hl⟩:=k_1
  have⟨hX,hXl,hn,hc,hZ,hk⟩:=k_3
  by_cases hlt:k<Z
  · exact(fs57 hlt).x fun _ ⟨k11_,k_3,e_⟩=> .inl ⟨rfl,Z - (k+1),by omega,⟨_,_,_,_,k_3,rfl,e_⟩⟩
  · exact(rn_seqx (w:= [1,1,1,1,0,0,0]) (by kernel_rfl) (fs55 hlt) (by simp)).x fun _ ⟨k_4,e_⟩=> .inr ⟨rfl,⟨k,n,cap,X,k_4,e_⟩⟩
abbrev fs5G (_:fs5M_c k_1 Z k n cap X):FS:=⟨false,54,[(2,.pointer (some ⟨1,0,none⟩)),(6,.slice (some ⟨2,0,none⟩) n cap),(7,.int .u64 ((l*8:Nat):Int))],[(a,t),((wA .i64 14 [64,80,28,34,39,14,18,41,1,8,7,19,61,6]),(50,(0,0))),((wA .u8 cap X),(5,(0,0)))]⟩
theorem fs5a:fs5A_R [1,1,1,1,1,0] (fs5M k_4) .normal (fun z_=>z_=fs5G k_4):=by
  have⟨hu,hN,hl⟩:=id k_1
  have⟨hX,hXl,hn,hc,hZ,hk⟩:=id k_4
  exact rn_ev (yty.enf tab0 1) fs5A_h mixed _ none [some (.int .u64 (l:Int)),some (.int .u64 ((l*8:Nat):Int))] [(5,(IntKind.u64.wrap (l:Int))=(l:Int)),(1,(IntKind.u64.wrap ((l:Int)*8))=((l*8:Nat):Int))] 1 (fun j M=>by kernel_rfl) (A1 (wu64 (by omega)) (A1 (wu64 (by omega)) A0)) rfl
abbrev fs5H (_:fs5M_c k_1 Z k n cap X):FS:=⟨false,54,[(2,.pointer (some ⟨1,0,none⟩)),(6,.slice (some ⟨2,0,none⟩) n cap),(7,.int .u64 ((l*8:Nat):Int)),(8,.slice none 0 0)],[(a,t),((wA .i64 14 [64,80,28,34,39,14,18,41,1,8,7,19,61,6]),(50,(0,0))),((wA .u8 cap X),(5,(0,0)))]⟩
theorem fs5b:fs5A_R [1,1,1,1,1,1,0] (fs5G k_4) .normal (fun z_=>z_=fs5H k_4):=rn_ev (yty.enf tab0 1) fs5A_h mixed _ none [] [] 1 (fun j M=>by kernel_rfl) A0 rfl
abbrev fs5I (_:fs5M_c k_1 Z k n cap X):FS:=⟨false,54,[(2,.pointer (some ⟨1,0,none⟩)),(6,.slice (some ⟨2,0,none⟩) n cap),(7,.int .u64 ((l*8:Nat):Int)),(8,.slice none 0 0),(9,.int .i64 0)],[(a,t),((wA .i64 14 [64,80,28,34,39,14,18,41,1,8,7,19,61,6]),(50,(0,0))),((wA .u8 cap X),(5,(0,0)))]⟩
theorem fs5c:fs5A_R [1,1,1,1,1,1,1,0,0] (fs5H k_4) .normal (fun z_=>z_=fs5I k_4):=rn_ev (yty.enf tab0 1) fs5A_h mixed _ none [] [] 1 (fun j M=>by kernel_rfl) A0 rfl
structure fs5J_c (_:fs5M_c k_1 Z k n cap X) (i m c8:Nat) (Y:List Int):Prop where
  hY:Y=beL (l*8) i
  hYl:Y.length=i
  hi:1≤i∧i≤16
  hc8:i≤c8
  hm:m=(l*8) / 256 ^ i
  hmb:m≤8000000000
variable {i m c8:Nat} {Y:List Int} {k_5:fs5J_c k_4 i m c8 Y}
abbrev fs5J (_:fs5J_c k_4 i m c8 Y):FS:=⟨false,54,[(2,.pointer (some ⟨1,0,none⟩)),(6,.slice (some ⟨2,0,none⟩) n cap),(7,.int .u64 (m:Int)),(8,.slice (some ⟨3,0,none⟩) i c8),(9,.int .i64 (i:Int))],[(a,t),((wA .i64 14 [64,80,28,34,39,14,18,41,1,8,7,19,61,6]),(50,(0,0))),((wA .u8 cap X),(5,(0,0))),((wA .u8 c8 Y),(5,(0,0)))]⟩
structure fs5K_c (_:fs5M_c k_1 Z k n cap X) (i m c8:Nat) (Y:List Int):Prop where
  hY:Y=beL (l*8) (i+1)
  hYl:Y.length=i+1
  hi:i+1≤16
  hc8:i+1≤c8
  hm:m=(l*8) / 256 ^ i
  hmb:m≤8000000000
variable {k_6:fs5K_c k_4 i m c8 Y}
abbrev fs5K (_:fs5K_c k_4 i m c8 Y):FS:=⟨false,54,[(2,.pointer (some ⟨1,0,none⟩)),(6,.slice (some ⟨2,0,none⟩) n cap),(7,.int .u64 (m:Int)),(8,.slice (some ⟨3,0,none⟩) (i+1) c8),(9,.int .i64 (i:Int))],[(a,t),((wA .i64 14 [64,80,28,34,39,14,18,41,1,8,7,19,61,6]),(50,(0,0))),((wA .u8 cap X),(5,(0,0))),((wA .u8 c8 Y),(5,(0,0)))]⟩
structure fs5N_c (_:fs5M_c k_1 Z k n cap X) (i m c8:Nat) (Y:List Int):Prop where
  hY:Y=beL (l*8) (i+1)
  hYl:Y.length=i+1
  hi:i+1≤16
  hc8:i+1≤c8
  hm:m=(l*8) / 256 ^ (i+1)
  hmb:m≤8000000000
variable {k_7:fs5N_c k_4 i m c8 Y}
abbrev fs5N (_:fs5N_c k_4 i m c8 Y):FS:=⟨false,54,[(2,.pointer (some ⟨1,0,none⟩)),(6,.slice (some ⟨2,0,none⟩) n cap),(7,.int .u64 (m:Int)),(8,.slice (some ⟨3,0,none⟩) (i+1) c8),(9,.int .i64 (i:Int))],[(a,t),((wA .i64 14 [64,80,28,34,39,14,18,41,1,8,7,19,61,6]),(50,(0,0))),((wA .u8 cap X),(5,(0,0))),((wA .u8 c8 Y),(5,(0,0)))]⟩
theorem fs5d:fs5A_R [1,1,1,1,1,1,1,0,1,0,0,0] (fs5I k_4) .normal (fun z_=>z_=fs5I k_4):=by
  have⟨hu,hN,hl⟩:=id k_1
  have⟨hX,hXl,hn,hc,hZ,hk⟩:=id k_4
  exact rn_ev (yty.enf tab0 1) fs5A_h mixed _ none [none,none,some (.bool true)] [(6,((4:Int)≠0)),(1,true=true)] 0 (fun j M=>by kernel_rfl) (A1 (by decide) (A1 (by first|rfl|assumption) A0)) rfl
theorem fs5e (hlt:i<16):fs5A_R [1,1,1,1,1,1,1,0,1,0,0,0] (fs5J k_5) .normal (fun z_=>z_=fs5J k_5):=by
  have⟨hu,hN,hl⟩:=id k_1
  have⟨hX,hXl,hn,hc,hZ,hk⟩:=id k_4
  have⟨hY,hYl,hi,hc8,hm,hmb⟩:=id k_5
  exact rn_ev (yty.enf tab0 1) fs5A_h mixed _ none [none,none,some (.bool true)] [(6,((4:Int)≠0)),(1,(decide ((i:Int)<16))=true)] 0 (fun j M=>by kernel_rfl) (A1 (by decide) (A1 (decide_eq_true (by omega)) A0)) rfl
structure fs5P_c (_:fs5M_c k_1 Z k n cap X) (i m c8:Nat) (Y:List Int):Prop where
  hY:Y=beL (l*8) i
  hYl:Y.length=i
  hi:i=16
  hc8:i≤c8
  hm:m=(l*8) / 256 ^ i
  hmb:m≤8000000000
variable {k_8:fs5P_c k_4 i m c8 Y}
abbrev fs5P (_:fs5P_c k_4 i m c8 Y):FS:=⟨false,54,[(2,.pointer (some ⟨1,0,none⟩)),(6,.slice (some ⟨2,0,none⟩) n cap),(7,.int .u64 (m:Int)),(8,.slice (some ⟨3,0,none⟩) i c8),(9,.int .i64 (i:Int))],[(a,t),((wA .i64 14 [64,80,28,34,39,14,18,41,1,8,7,19,61,6]),(50,(0,0))),((wA .u8 cap X),(5,(0,0))),((wA .u8 c8 Y),(5,(0,0)))]⟩
theorem fs5f (hge:¬ i<16):fs5A_R [1,1,1,1,1,1,1,0,1,0,0,0] (fs5J k_5) (.exit 2) (fun z_=>∃(k_8:fs5P_c k_4 i m c8 Y),z_=fs5P k_8):=by
  have⟨hu,hN,hl⟩:=id k_1
  have⟨hX,hXl,hn,hc,hZ,hk⟩:=id k_4
  have⟨hY,hYl,hi,hc8,hm,hmb⟩:=id k_5
  exact rn_ev (yty.enf tab0 1) fs5A_h mixed _ none [none,none,some (.bool false)] [(6,((4:Int)≠0)),(1,(decide ((i:Int)<16))=false)] 0 (fun j M=>by kernel_rfl) (A1 (by decide) (A1 (decide_eq_false (by omega)) A0)) ⟨⟨hY,hYl,by omega,hc8,hm,hmb⟩,rfl⟩
theorem fs5g:fs5A_R [1,1,1,1,1,1,1,0,1,0,0,1,0,0,0] (fs5I k_4) .normal (fun z_=>∃(k1:Nat) (k_6:fs5K_c k_4 0 (l*8) k1 (([((l*8%256:Nat):Int)]:List Int) ++ [])),z_=fs5K k_6):=by
  have⟨hu,hN,hl⟩:=id k_1
  have⟨hX,hXl,hn,hc,hZ,hk⟩:=id k_4
  refine rn_reg none (by kernel_rfl) fun j c0 ch0=> ?_
  refine rl_app (yty.enf tab0 1) apB apB.ht 5 [some (.int .u64 (((l*8)%256:Nat):Int)),some (.int .u8 (((l*8)%256:Nat):Int))] [(2,(((256:Int)≠0)∧(Int.tmod ((l*8:Nat):Int) 256)=(((l*8)%256:Nat):Int))),(1,(IntKind.u8.wrap (((l*8)%256:Nat):Int))=(((l*8)%256:Nat):Int))] 1 [(a,t),((wA .i64 14 [64,80,28,34,39,14,18,41,1,8,7,19,61,6]),(50,(0,0))),((wA .u8 cap X),(5,(0,0))),((wA .u8 1 [(((l*8)%256:Nat):Int)]),(5,(0,0)))] 3 1 1 ([((l*8%256:Nat):Int)]:List Int) ([]:List Int) (.slice none 0 0) (some 48) (by kernel_rfl) (A1 ⟨(by decide),(by exact tmodN (l*8) 256)⟩ (A1 (wu8 (by omega)) A0)) rfl (by simp) src_nil (by simp) fun n1 k1 M1 c1_ e1_ hn1 hk1=> ?_
  try simp only[zL] at hn1
  obtain rfl:n1=1:=hn1
  exact rl_end (E:=(yty.enf tab0 1)) _ [] [] 1 (fun M=>by kernel_rfl) A0 ⟨k1,⟨by simp[beL],rfl,by omega,by omega,by simp,by omega⟩,rfl⟩
theorem fs5h (hlt:i<16):fs5A_R [1,1,1,1,1,1,1,0,1,0,0,1,0,0,0] (fs5J k_5) .normal (fun z_=>∃(k1:Nat) (k_6:fs5K_c k_4 i m k1 (([((m%256:Nat):Int)]:List Int) ++ Y)),z_=fs5K k_6):=by
  have⟨hu,hN,hl⟩:=id k_1
  have⟨hX,hXl,hn,hc,hZ,hk⟩:=id k_4
  have⟨hY,hYl,hi,hc8,hm,hmb⟩:=id k_5
  refine rn_reg (some (true,3)) (by kernel_rfl) fun j c0 ch0=> ?_
  refine rl_app (yty.enf tab0 1) apB apB.ht 5 [some (.int .u64 ((m%256:Nat):Int)),some (.int .u8 ((m%256:Nat):Int))] [(2,(((256:Int)≠0)∧(Int.tmod (m:Int) 256)=((m%256:Nat):Int))),(1,(IntKind.u8.wrap ((m%256:Nat):Int))=((m%256:Nat):Int))] 1 [(a,t),((wA .i64 14 [64,80,28,34,39,14,18,41,1,8,7,19,61,6]),(50,(0,0))),((wA .u8 cap X),(5,(0,0))),((wA .u8 c8 Y),(5,(0,0))),((wA .u8 1 [((m%256:Nat):Int)]),(5,(0,0)))] 4 1 1 ([((m%256:Nat):Int)]:List Int) Y (.slice (some ⟨3,0,none⟩) i c8) (some 48) (by kernel_rfl) (A1 ⟨(by decide),(by exact tmodN m 256)⟩ (A1 (wu8 (by omega)) A0)) rfl (by simp) (src_wA (i:=3) rfl hYl.symm (by omega)) (by simp only[List.length_cons,List.length_nil];omega) fun n1 k1 M1 c1_ e1_ hn1 hk1=> ?_
  try simp only[zL] at hn1
  obtain rfl:n1=i+1:=by omega
  exact rl_end (E:=(yty.enf tab0 1)) _ [] [] 1 (fun M=>by kernel_rfl) A0 ⟨k1,⟨by rw[hY,hm];rfl,by simp only[List.length_append,List.length_cons,List.length_nil];omega,by omega,by omega,hm,hmb⟩,rfl⟩
theorem fs5i:fs5A_R [1,1,1,1,1,1,1,0,1,0,0,1,0,0,1] (fs5K k_6) .normal (fun z_=>∃(k_7:fs5N_c k_4 i (m / 256) c8 Y),z_=fs5N k_7):=by
  have⟨hu,hN,hl⟩:=id k_1
  have⟨hX,hXl,hn,hc,hZ,hk⟩:=id k_4
  have⟨hY,hYl,hi,hc8,hm,hmb⟩:=id k_6
  exact rn_ev (yty.enf tab0 1) fs5A_h mixed _ none [some (.int .u64 ((m / 256:Nat):Int))] [(2,(((256:Int)≠0)∧(IntKind.u64.wrap (Int.tdiv (m:Int) 256))=((m / 256:Nat):Int)))] 1 (fun j M=>by kernel_rfl) (A1 ⟨(by decide),(by exact tdivN_u64 m 256 (by omega))⟩ A0) ⟨⟨hY,hYl,hi,hc8,by rw[hm,Nat.div_div_eq_div_mul,← Nat.pow_succ],by omega⟩,rfl⟩
theorem fs5j:fs5A_R [1,1,1,1,1,1,1,0,1,0,0,1,1] (fs5N k_7) .normal (fun z_=>∃(k_5:fs5J_c k_4 (i+1) m c8 Y),z_=fs5J k_5):=by
  have⟨hu,hN,hl⟩:=id k_1
  have⟨hX,hXl,hn,hc,hZ,hk⟩:=id k_4
  have⟨hY,hYl,hi,hc8,hm,hmb⟩:=id k_7
  exact rn_ev (yty.enf tab0 1) fs5A_h mixed _ none [some (.int .i64 ((i+1:Nat):Int))] [(3,(IntKind.i64.wrap ((i:Int)+1))=((i+1:Nat):Int))] 1 (fun j M=>by kernel_rfl) (A1 (wi64 (by omega)) A0) ⟨⟨hY,hYl,by omega,hc8,hm,hmb⟩,rfl⟩
theorem fs5l:fs5A_R [1,1,1,1,1,1,1,0,1,0,0,1,0,0] (fs5I k_4) .normal (fun z_=>∃(k10:Nat) (k_7:fs5N_c k_4 0 ((l*8) / 256) k10 (([((l*8%256:Nat):Int)]:List Int) ++ [])),z_=fs5N k_7):=by
  refine rn_seq (w:= [1,1,1,1,1,1,1,0,1,0,0,1,0,0]) (by kernel_rfl) fs5g ?_
  rintro _ ⟨k10,k_6,rfl⟩
  exact(fs5i).mono fun _ ⟨k_7,e_⟩=>⟨k10,k_7,e_⟩
theorem fs5k:fs5A_R [1,1,1,1,1,1,1,0,1,0,0,1,0] (fs5I k_4) .normal (fun z_=>∃(k10:Nat) (k_7:fs5N_c k_4 0 ((l*8) / 256) k10 (([((l*8%256:Nat):Int)]:List Int) ++ [])),z_=fs5N k_7):=rn_block (k:=3) (w:= [1,1,1,1,1,1,1,0,1,0,0,1,0]) (by kernel_rfl) fs5l
theorem fs5n (hlt:i<16):fs5A_R [1,1,1,1,1,1,1,0,1,0,0,1,0,0] (fs5J k_5) .normal (fun z_=>∃(k10:Nat) (k_7:fs5N_c k_4 i (m / 256) k10 (([((m%256:Nat):Int)]:List Int) ++ Y)),z_=fs5N k_7):=by
  refine rn_seq (w:= [1,1,1,1,1,1,1,0,1,0,0,1,0,0]) (by kernel_rfl) (fs5h hlt) ?_
  rintro _ ⟨k10,k_6,rfl⟩
  exact(fs5i).mono fun _ ⟨k_7,e_⟩=>⟨k10,k_7,e_⟩
theorem fs5m (hlt:i<16):fs5A_R [1,1,1,1,1,1,1,0,1,0,0,1,0] (fs5J k_5) .normal (fun z_=>∃(k10:Nat) (k_7:fs5N_c k_4 i (m / 256) k10 (([((m%256:Nat):Int)]:List Int) ++ Y)),z_=fs5N k_7):=rn_block (k:=3) (w:= [1,1,1,1,1,1,1,0,1,0,0,1,0]) (by kernel_rfl) (fs5n hlt)
theorem fs5o:fs5A_R [1,1,1,1,1,1,1,0,1,0,0] (fs5I k_4) .normal (fun z_=>∃(k101:Nat) (k_5:fs5J_c k_4 (0+1) ((l*8) / 256) k101 (([((l*8%256:Nat):Int)]:List Int) ++ [])),z_=fs5J k_5):=by
  refine rn_seq (w:= [1,1,1,1,1,1,1,0,1,0,0]) (by kernel_rfl) fs5d ?_
  rintro _ rfl
  refine rn_seq (w:= [1,1,1,1,1,1,1,0,1,0,0,1]) (by kernel_rfl) fs5k ?_
  rintro _ ⟨k101,k_7,rfl⟩
  exact(fs5j).mono fun _ ⟨k_5,e_⟩=>⟨k101,k_5,e_⟩
theorem fs5p (hlt:i<16):fs5A_R [1,1,1,1,1,1,1,0,1,0,0] (fs5J k_5) .normal (fun z_=>∃(k101:Nat) (k_5:fs5J_c k_4 (i+1) (m / 256) k101 (([((m%256:Nat):Int)]:List Int) ++ Y)),z_=fs5J k_5):=by
  refine rn_seq (w:= [1,1,1,1,1,1,1,0,1,0,0]) (by kernel_rfl) (fs5e hlt) ?_
  rintro _ rfl
  refine rn_seq (w:= [1,1,1,1,1,1,1,0,1,0,0,1]) (by kernel_rfl) (fs5m hlt) ?_
  rintro _ ⟨k101,k_7,rfl⟩
  exact(fs5j).mono fun _ ⟨k_5,e_⟩=>⟨k101,k_5,e_⟩
theorem fs5q:fs5A_R [1,1,1,1,1,1,1,0,1] (fs5I k_4) .normal (fun z_=>∃(i m c8:Nat) (Y:List Int) (k_8:fs5P_c k_4 i m c8 Y),z_=fs5P k_8):=by
  refine rn_loop (k:=2) (w:= [1,1,1,1,1,1,1,0,1]) (by kernel_rfl) (fun n_ z_=>(n_=16 - 0∧z_=fs5I k_4)∨∃(i m c8:Nat) (Y:List Int) (k_5:fs5J_c k_4 i m c8 Y),n_=16 - i∧z_=fs5J k_5) _ (.inl ⟨rfl,rfl⟩) ?_
  rintro n_ _ (⟨hn_,rfl⟩|⟨i,m,c8,Y,k_5,hn_,rfl⟩)
  · have ⟨hu, hN, hl⟩ := k_1
    have⟨hX,hXl,hn,hc,hZ,hk⟩:=k_4
    have hlt:0<16:=by omega
    exact fs5o.x fun _ ⟨k101_,k_5,e_⟩=> .inl ⟨rfl,16 - (0+1),by omega,.inr ⟨_,_,_,_,k_5,rfl,e_⟩⟩
  · have ⟨hu, hN, hl⟩ := k_1
    have⟨hX,hXl,hn,hc,hZ,hk⟩:=k_4
    have⟨hY,hYl,hi,hc8,hm,hmb⟩:=k_5
    by_cases hlt:i<16
    · exact(fs5p hlt).x fun _ ⟨k101_,k_5,e_⟩=> .inl ⟨rfl,16 - (i+1),by omega,.inr ⟨_,_,_,_,k_5,rfl,e_⟩⟩
    · exact(rn_seqx (w:= [1,1,1,1,1,1,1,0,1,0,0]) (by kernel_rfl) (fs5f hlt) (by simp)).x fun _ ⟨k_8,e_⟩=> .inr ⟨rfl,⟨i,m,c8,Y,k_8,e_⟩⟩
theorem fs5r:fs5A_R [1,1,1,1,1,1,1,0] (fs5H k_4) .normal (fun z_=>∃(i1 m1 c81:Nat) (Y1:List Int) (k_8:fs5P_c k_4 i1 m1 c81 Y1),z_=fs5P k_8):=by
  refine rn_seq (w:= [1,1,1,1,1,1,1,0]) (by kernel_rfl) fs5c ?_
  rintro _ rfl
  exact fs5q
structure fs5O_c (_:fs5P_c k_4 i m c8 Y) (n9 c9:Nat):Prop where
  hn9:n9=n+i
  hc9:n9≤c9
variable {n9 c9:Nat} {k_9:fs5O_c k_8 n9 c9}
abbrev fs5O (_:fs5O_c k_8 n9 c9):FS:=⟨false,54,[(4,.slice (some ⟨2,0,none⟩) n9 c9)],[(a,t),((wA .i64 14 [64,80,28,34,39,14,18,41,1,8,7,19,61,6]),(50,(0,0))),((wA .u8 c9 (X ++ Y)),(5,(0,0))),((wA .u8 c8 Y),(5,(0,0)))]⟩
theorem fs5s:fs5A_R [1,1,1,1,1,1,1,1,0] (fs5P k_8) .normal (fun z_=>∃(n1 k1:Nat) (k_9:fs5O_c k_8 n1 k1),z_=fs5O k_9):=by
  have⟨hu,hN,hl⟩:=id k_1
  have⟨hX,hXl,hn,hc,hZ,hk⟩:=id k_4
  have⟨hY,hYl,hi,hc8,hm,hmb⟩:=id k_8
  refine rn_reg none (by kernel_rfl) fun j c0 ch0=> ?_
  refine rl_app (yty.enf tab0 1) apB apB.ht 2 [] [] 2 [(a,t),((wA .i64 14 [64,80,28,34,39,14,18,41,1,8,7,19,61,6]),(50,(0,0))),((wA .u8 cap X),(5,(0,0))),((wA .u8 c8 Y),(5,(0,0)))] 2 n cap X Y (.slice (some ⟨3,0,none⟩) i c8) (some 53) (by kernel_rfl) A0 (by omega) (by omega) (src_wA (i:=3) rfl hYl.symm (by omega)) (by omega) fun n1 k1 M1 c1_ e1_ hn1 hk1=> ?_
  try simp only[zL] at hn1
  exact rl_end (E:=(yty.enf tab0 1)) _ [] [] 1 (fun M=>by kernel_rfl) A0 ⟨n1,k1,⟨by omega,by omega⟩,rfl⟩
theorem fs5t:fs5A_R [1,1,1,1,1,1,1,1,1] (fs5O k_9) .ret (fun z_=>z_=fs5O k_9):=rn_ev (yty.enf tab0 1) fs5A_h mixed _ none [] [] 0 (fun j M=>by kernel_rfl) A0 rfl
theorem fs5u':fs5A_R [] (fs5A k_1) .ret (fun z_=>∃(cap2 k13 k4 n4 cap4:Nat) (X4:List Int) (i17 m17 c817:Nat) (Y17:List Int) (n18 k18:Nat) (k_4:fs5M_c k_1 ((240 - (l+1)%128)%128) k4 n4 cap4 X4) (k_8:fs5P_c k_4 i17 m17 c817 Y17) (k_9:fs5O_c k_8 n18 k18),z_=fs5O k_9):=by
  refine rn_seq (w:= []) (by kernel_rfl) fs50 ?_
  rintro _ rfl
  refine rn_seq (w:= [1]) (by kernel_rfl) fs51 ?_
  rintro _ rfl
  refine rn_seq (w:= [1,1]) (by kernel_rfl) fs52 ?_
  rintro _ ⟨cap2,k_2,rfl⟩
  refine rn_seq (w:= [1,1,1]) (by kernel_rfl) fs53 ?_
  rintro _ ⟨k13,k_3,rfl⟩
  refine rn_seq (w:= [1,1,1,1]) (by kernel_rfl) fs58 ?_
  rintro _ ⟨k4,n4,cap4,X4,k_4,rfl⟩
  refine rn_seq (w:= [1,1,1,1,1]) (by kernel_rfl) fs5a ?_
  rintro _ rfl
  refine rn_seq (w:= [1,1,1,1,1,1]) (by kernel_rfl) fs5b ?_
  rintro _ rfl
  refine rn_seq (w:= [1,1,1,1,1,1,1]) (by kernel_rfl) fs5r ?_
  rintro _ ⟨i17,m17,c817,Y17,k_8,rfl⟩
  refine rn_seq (w:= [1,1,1,1,1,1,1,1]) (by kernel_rfl) fs5s ?_
  rintro _ ⟨n18,k18,k_9,rfl⟩
  exact(fs5t).mono fun _ e_=>⟨cap2,k13,k4,n4,cap4,X4,i17,m17,c817,Y17,n18,k18,k_4,k_8,k_9,e_⟩
abbrev fs5A_s (a:Array Value) (t:Tq) (o l cp:Nat) (N:List Int) (j:Nat→Value):List Value:=([.agg (wA .i64 14 [64,80,28,34,39,14,18,41,1,8,7,19,61,6]),.slice (some ⟨0,o,none⟩) l cp] ++ (JU 52))
abbrev fs5A_m (a:Array Value) (t:Tq) (o l cp:Nat) (N:List Int):List Mb:= [(a,t)]
abbrev fs5O_s (a:Array Value) (t:Tq) (o l cp:Nat) (N:List Int) (Z k n cap:Nat) (X:List Int) (i m c8:Nat) (Y:List Int) (n9 c9:Nat) (j:Nat→Value):List Value:=(J j 0 4 ++ ([.slice (some ⟨2,0,none⟩) n9 c9] ++ (J j 5 49)))
abbrev fs5O_m (a:Array Value) (t:Tq) (o l cp:Nat) (N:List Int) (Z k n cap:Nat) (X:List Int) (i m c8:Nat) (Y:List Int) (n9 c9:Nat):List Mb:= [(a,t),((wA .i64 14 [64,80,28,34,39,14,18,41,1,8,7,19,61,6]),(50,(0,0))),((wA .u8 c9 (X ++ Y)),(5,(0,0))),((wA .u8 c8 Y),(5,(0,0)))]
theorem fs5u (a:Array Value) (t:Tq) (o l cp:Nat) (N:List Int) (j:Nat→Value) (hu:SrcOk .u8 [(a,t)] (.slice (some ⟨0,o,none⟩) l cp) N) (hN:N.length=l) (hl:l≤1000000000)  :Runs Tryd.prog (cAt [] (bdy Tryd.f47)) ⟨fs5A_s a t o l cp N j,fs5A_m a t o l cp N,c0,ch0⟩ (fun e s=>e= .ret∧∃(cap2:Nat) (k13:Nat) (k4:Nat) (n4:Nat) (cap4:Nat) (X4:List Int) (i17:Nat) (m17:Nat) (c817:Nat) (Y17:List Int) (n18:Nat) (k18:Nat),∃j c ch,(X4=N ++ [128] ++ List.replicate k4 0)∧(X4.length=n4)∧(n4=l+1+k4)∧(n4≤cap4)∧(((240 - (l+1)%128)%128)=(240 - (l+1)%128)%128)∧(k4=((240 - (l+1)%128)%128))∧(Y17=beL (l*8) i17)∧(Y17.length=i17)∧(i17=16)∧(i17≤c817)∧(m17=(l*8) / 256 ^ i17)∧(m17≤8000000000)∧(n18=n4+i17)∧(n18≤k18)∧s=⟨fs5O_s a t o l cp N ((240 - (l+1)%128)%128) k4 n4 cap4 X4 i17 m17 c817 Y17 n18 k18 j,fs5O_m a t o l cp N ((240 - (l+1)%128)%128) k4 n4 cap4 X4 i17 m17 c817 Y17 n18 k18,c,ch⟩) 1:=by
  refine(Rn.old (fs5u' (k_1:=(⟨hu,hN,hl⟩:fs5A_c a t o l cp N))) j (by kernel_rfl)).mono ?_
  rintro e s ⟨rfl,_,⟨cap2,k13,k4,n4,cap4,X4,i17,m17,c817,Y17,n18,k18,k_4,k_8,k_9,rfl⟩,j,c,ch,rfl⟩
  have⟨x_hX,x_hXl,x_hn,x_hc,x_hZ,x_hk⟩:=k_4
  have⟨x_hY,x_hYl,x_hi,x_hc8,x_hm,x_hmb⟩:=k_8
  have⟨x_hn9,x_hc9⟩:=k_9
  exact⟨rfl,cap2,k13,k4,n4,cap4,X4,i17,m17,c817,Y17,n18,k18,j,c,ch,x_hX,x_hXl,x_hn,x_hc,x_hZ,x_hk,x_hY,x_hYl,x_hi,x_hc8,x_hm,x_hmb,x_hn9,x_hc9,by kernel_rfl⟩
def fn5A_h (i:Nat):Hn:=if i=4 then⟨10,[],[],[],[]⟩ else⟨0,[],[],[],[]⟩
abbrev fn5A_R (w:List Nat) (S:FS) (e:Exit) (K:FS→Prop):Prop:=Rn Tryd.prog (cAt w (bdy Tryd.f47)) S e K 0
structure fn5A_c (N:List Int):Prop where
  hN:N= []
variable {N:List Int} {k_1:fn5A_c N}
abbrev fn5A (_:fn5A_c N):FS:=⟨true,54,[(0,.agg (wA .i64 14 [64,80,28,34,39,14,18,41,1,8,7,19,61,6])),(1,.slice none 0 0)],[]⟩
abbrev fn5B (_:fn5A_c N):FS:=⟨false,54,[(1,.slice none 0 0),(2,.pointer (some ⟨0,0,none⟩))],[((wA .i64 14 [64,80,28,34,39,14,18,41,1,8,7,19,61,6]),(50,(0,0)))]⟩
theorem fn50:fn5A_R [0] (fn5A k_1) .normal (fun z_=>z_=fn5B k_1):=rn_ev (yty.en tab0) fn5A_h mixed _ none [] [] 1 (fun j M=>by kernel_rfl) A0 rfl
abbrev fn5C (_:fn5A_c N):FS:=⟨false,54,[(1,.slice none 0 0),(2,.pointer (some ⟨0,0,none⟩)),(5,.int .i64 128)],[((wA .i64 14 [64,80,28,34,39,14,18,41,1,8,7,19,61,6]),(50,(0,0)))]⟩
theorem fn51:fn5A_R [1,0] (fn5B k_1) .normal (fun z_=>z_=fn5C k_1):=rn_ev (yty.en tab0) fn5A_h mixed _ none [] [] 4 (fun j M=>by kernel_rfl) A0 rfl
structure fn5D_c (_:fn5A_c N) (cap:Nat):Prop where
  hc:0≤cap
variable {cap:Nat} {k_2:fn5D_c k_1 cap}
abbrev fn5D (_:fn5D_c k_1 cap):FS:=⟨false,54,[(1,.slice none 0 0),(2,.pointer (some ⟨0,0,none⟩)),(5,.int .i64 128),(6,.slice (some ⟨1,0,none⟩) 0 cap)],[((wA .i64 14 [64,80,28,34,39,14,18,41,1,8,7,19,61,6]),(50,(0,0))),((wA .u8 cap N),(5,(0,0)))]⟩
theorem fn52:fn5A_R [1,1,0] (fn5C k_1) .normal (fun z_=>∃(cap:Nat) (k_2:fn5D_c k_1 cap),z_=fn5D k_2):=by
  have⟨hN⟩:=id k_1
  refine rn_reg none (by kernel_rfl) fun j c0 ch0=> ?_
  refine rl_app (yty.en tab0) apB apB.ht 2 [] [] 1 [((wA .i64 14 [64,80,28,34,39,14,18,41,1,8,7,19,61,6]),(50,(0,0))),((wA .u8 0 []),(5,(0,0)))] 1 0 0 ([]:List Int) N (.slice none 0 0) (some 15) (by kernel_rfl) A0 rfl (by simp) (by subst hN;exact src_nil) (by subst hN;decide) fun n1 k1 M1 c1_ e1_ hn1 hk1=> ?_
  try simp only[zL] at hn1
  obtain rfl:n1=0:=by rw[hn1,hN];rfl
  exact rl_end (E:=(yty.en tab0)) _ [] [] 1 (fun M=>by kernel_rfl) A0 ⟨k1,⟨by omega⟩,rfl⟩
structure fn5L_c (_:fn5A_c N) (Z k n cap:Nat) (X:List Int):Prop where
  hX:X=N ++ [128] ++ List.replicate k 0
  hXl:X.length=n
  hn:n=0+1+k
  hc:n≤cap
  hZ:Z=(240 - (0+1)%128)%128
  hk:k≤Z
variable {Z k n:Nat} {X:List Int} {k_3:fn5L_c k_1 Z k n cap X}
abbrev fn5L (_:fn5L_c k_1 Z k n cap X):FS:=⟨false,54,[(1,.slice none 0 0),(2,.pointer (some ⟨0,0,none⟩)),(5,.int .i64 128),(6,.slice (some ⟨1,0,none⟩) n cap)],[((wA .i64 14 [64,80,28,34,39,14,18,41,1,8,7,19,61,6]),(50,(0,0))),((wA .u8 cap X),(5,(0,0)))]⟩
theorem fn53:fn5A_R [1,1,1,0] (fn5D k_2) .normal (fun z_=>∃(k1:Nat) (k_3:fn5L_c k_1 ((240 - (0+1)%128)%128) 0 (0+1) k1 (N ++ [128])),z_=fn5L k_3):=by
  have⟨hN⟩:=id k_1
  have⟨hc⟩:=id k_2
  refine rn_reg (some (false,2)) (by kernel_rfl) fun j c0 ch0=> ?_
  refine rl_app (yty.en tab0) apB apB.ht 2 [] [] 1 [((wA .i64 14 [64,80,28,34,39,14,18,41,1,8,7,19,61,6]),(50,(0,0))),((wA .u8 cap N),(5,(0,0))),((wA .u8 1 [128]),(5,(0,0)))] 1 0 cap N ([128]:List Int) (.slice (some ⟨2,0,none⟩) 1 1) (some 18) (by kernel_rfl) A0 (by rw[hN];rfl) (by rw[hN];exact hc) (src_wA (i:=2) rfl rfl (by decide)) (by rw[hN];decide) fun n1 k1 M1 c1_ e1_ hn1 hk1=> ?_
  try simp only[zL] at hn1
  obtain rfl:n1=0+1:=by rw[hn1,hN];rfl
  exact rl_end (E:=(yty.en tab0)) _ [] [] 1 (fun M=>by kernel_rfl) A0 ⟨k1,⟨by simp,by rw[hN];rfl,rfl,by rw[hN] at hn1;simp at hn1;omega,rfl,Nat.zero_le _⟩,rfl⟩
theorem fn54 (hlt:k<Z):fn5A_R [1,1,1,1,0,0,0,0] (fn5L k_3) .normal (fun z_=>z_=fn5L k_3):=by
  have⟨hN⟩:=id k_1
  have⟨hX,hXl,hn,hc,hZ,hk⟩:=id k_3
  exact rn_ev (yty.en tab0) fn5A_h mixed _ none [some (.int .i64 ((n%128:Nat):Int)),none,none,none,some (.bool true)] [(6,(((128:Int)≠0)∧(Int.tmod (n:Int) 128)=((n%128:Nat):Int))),(6,((4:Int)≠0)),(3,(!decide (((n%128:Nat):Int)=112))=true)] 0 (fun j M=>by kernel_rfl) (A1 ⟨(by decide),(by exact tmodN n 128)⟩ (A1 (by decide) (A1 (neT (by omega)) A0))) rfl
structure fn5M_c (_:fn5A_c N) (Z k n cap:Nat) (X:List Int):Prop where
  hX:X=N ++ [128] ++ List.replicate k 0
  hXl:X.length=n
  hn:n=0+1+k
  hc:n≤cap
  hZ:Z=(240 - (0+1)%128)%128
  hk:k=Z
variable {k_4:fn5M_c k_1 Z k n cap X}
abbrev fn5M (_:fn5M_c k_1 Z k n cap X):FS:=⟨false,54,[(1,.slice none 0 0),(2,.pointer (some ⟨0,0,none⟩)),(5,.int .i64 128),(6,.slice (some ⟨1,0,none⟩) n cap)],[((wA .i64 14 [64,80,28,34,39,14,18,41,1,8,7,19,61,6]),(50,(0,0))),((wA .u8 cap X),(5,(0,0)))]⟩
theorem fn55 (hge:¬ k<Z):fn5A_R [1,1,1,1,0,0,0,0] (fn5L k_3) (.exit 0) (fun z_=>∃(k_4:fn5M_c k_1 Z k n cap X),z_=fn5M k_4):=by
  have⟨hN⟩:=id k_1
  have⟨hX,hXl,hn,hc,hZ,hk⟩:=id k_3
  exact rn_ev (yty.en tab0) fn5A_h mixed _ none [some (.int .i64 ((n%128:Nat):Int)),none,none,none,some (.bool false)] [(6,(((128:Int)≠0)∧(Int.tmod (n:Int) 128)=((n%128:Nat):Int))),(6,((4:Int)≠0)),(3,(!decide (((n%128:Nat):Int)=112))=false)] 0 (fun j M=>by kernel_rfl) (A1 ⟨(by decide),(by exact tmodN n 128)⟩ (A1 (by decide) (A1 (neF (by omega)) A0))) ⟨⟨hX,hXl,hn,hc,hZ,by omega⟩,rfl⟩
theorem fn56 (hlt:k<Z):fn5A_R [1,1,1,1,0,0,0,1,0] (fn5L k_3) .normal (fun z_=>∃(k1:Nat) (k_3:fn5L_c k_1 Z (k+1) (n+1) k1 (X ++ [0])),z_=fn5L k_3):=by
  have⟨hN⟩:=id k_1
  have⟨hX,hXl,hn,hc,hZ,hk⟩:=id k_3
  refine rn_reg (some (false,2)) (by kernel_rfl) fun j c0 ch0=> ?_
  refine rl_app (yty.en tab0) apB apB.ht 2 [] [] 1 [((wA .i64 14 [64,80,28,34,39,14,18,41,1,8,7,19,61,6]),(50,(0,0))),((wA .u8 cap X),(5,(0,0))),((wA .u8 1 [0]),(5,(0,0)))] 1 n cap X ([0]:List Int) (.slice (some ⟨2,0,none⟩) 1 1) (some 31) (by kernel_rfl) A0 (by omega) (by omega) (src_wA (i:=2) rfl rfl (by decide)) (by simp only[List.length_cons,List.length_nil];omega) fun n1 k1 M1 c1_ e1_ hn1 hk1=> ?_
  try simp only[zL] at hn1
  obtain rfl:n1=n+1:=by omega
  exact rl_end (E:=(yty.en tab0)) _ [] [] 1 (fun M=>by kernel_rfl) A0 ⟨k1,⟨rep_cat hX,by simp only[List.length_append,List.length_cons,List.length_nil];omega,by omega,by omega,hZ,by omega⟩,rfl⟩
theorem fn59 (hlt:k<Z):fn5A_R [1,1,1,1,0,0,0,1] (fn5L k_3) .normal (fun z_=>∃(k1:Nat) (k_3:fn5L_c k_1 Z (k+1) (n+1) k1 (X ++ [0])),z_=fn5L k_3):=rn_block (k:=1) (w:= [1,1,1,1,0,0,0,1]) (by kernel_rfl) (fn56 hlt)
theorem fn57 (hlt:k<Z):fn5A_R [1,1,1,1,0,0,0] (fn5L k_3) .normal (fun z_=>∃(k11:Nat) (k_3:fn5L_c k_1 Z (k+1) (n+1) k11 (X ++ [0])),z_=fn5L k_3):=by
  refine rn_seq (w:= [1,1,1,1,0,0,0]) (by kernel_rfl) (fn54 hlt) ?_
  rintro _ rfl
  exact(fn59 hlt)
theorem fn58:fn5A_R [1,1,1,1,0] (fn5L k_3) .normal (fun z_=>∃(k n cap:Nat) (X:List Int) (k_4:fn5M_c k_1 Z k n cap X),z_=fn5M k_4):=by
  refine rn_loop (k:=0) (w:= [1,1,1,1,0]) (by kernel_rfl) (fun n_ z_=>∃(k n cap:Nat) (X:List Int) (k_3:fn5L_c k_1 Z k n cap X),n_=Z - k∧z_=fn5L k_3) _ ⟨_,_,_,_,k_3,rfl,rfl⟩ ?_
  rintro n_ _ ⟨k,n,cap,X,k_3,hn_,rfl⟩
  have⟨hN⟩:=k_1
  have⟨hX,hXl,hn,hc,hZ,hk⟩:=k_3
  by_cases hlt:k<Z
  · exact(fn57 hlt).x fun _ ⟨k11_,k_3,e_⟩=> .inl ⟨rfl,Z - (k+1),by omega,⟨_,_,_,_,k_3,rfl,e_⟩⟩
  · exact(rn_seqx (w:= [1,1,1,1,0,0,0]) (by kernel_rfl) (fn55 hlt) (by simp)).x fun _ ⟨k_4,e_⟩=> .inr ⟨rfl,⟨k,n,cap,X,k_4,e_⟩⟩
abbrev fn5G (_:fn5M_c k_1 Z k n cap X):FS:=⟨false,54,[(2,.pointer (some ⟨0,0,none⟩)),(6,.slice (some ⟨1,0,none⟩) n cap),(7,.int .u64 0)],[((wA .i64 14 [64,80,28,34,39,14,18,41,1,8,7,19,61,6]),(50,(0,0))),((wA .u8 cap X),(5,(0,0)))]⟩
theorem fn5a:fn5A_R [1,1,1,1,1,0] (fn5M k_4) .normal (fun z_=>z_=fn5G k_4):=rn_ev (yty.en tab0) fn5A_h mixed _ none [] [] 5 (fun j M=>by kernel_rfl) A0 rfl
abbrev fn5H (_:fn5M_c k_1 Z k n cap X):FS:=⟨false,54,[(2,.pointer (some ⟨0,0,none⟩)),(6,.slice (some ⟨1,0,none⟩) n cap),(7,.int .u64 0),(8,.slice none 0 0)],[((wA .i64 14 [64,80,28,34,39,14,18,41,1,8,7,19,61,6]),(50,(0,0))),((wA .u8 cap X),(5,(0,0)))]⟩
theorem fn5b:fn5A_R [1,1,1,1,1,1,0] (fn5G k_4) .normal (fun z_=>z_=fn5H k_4):=rn_ev (yty.en tab0) fn5A_h mixed _ none [] [] 1 (fun j M=>by kernel_rfl) A0 rfl
abbrev fn5I (_:fn5M_c k_1 Z k n cap X):FS:=⟨false,54,[(2,.pointer (some ⟨0,0,none⟩)),(6,.slice (some ⟨1,0,none⟩) n cap),(7,.int .u64 0),(8,.slice none 0 0),(9,.int .i64 0)],[((wA .i64 14 [64,80,28,34,39,14,18,41,1,8,7,19,61,6]),(50,(0,0))),((wA .u8 cap X),(5,(0,0)))]⟩
theorem fn5c:fn5A_R [1,1,1,1,1,1,1,0,0] (fn5H k_4) .normal (fun z_=>z_=fn5I k_4):=rn_ev (yty.en tab0) fn5A_h mixed _ none [] [] 1 (fun j M=>by kernel_rfl) A0 rfl
structure fn5J_c (_:fn5M_c k_1 Z k n cap X) (i m c8:Nat) (Y:List Int):Prop where
  hY:Y=beL 0 i
  hYl:Y.length=i
  hi:1≤i∧i≤16
  hc8:i≤c8
  hm:m=0 / 256 ^ i
  hmb:m≤8000000000
variable {i m c8:Nat} {Y:List Int} {k_5:fn5J_c k_4 i m c8 Y}
abbrev fn5J (_:fn5J_c k_4 i m c8 Y):FS:=⟨false,54,[(2,.pointer (some ⟨0,0,none⟩)),(6,.slice (some ⟨1,0,none⟩) n cap),(7,.int .u64 (m:Int)),(8,.slice (some ⟨2,0,none⟩) i c8),(9,.int .i64 (i:Int))],[((wA .i64 14 [64,80,28,34,39,14,18,41,1,8,7,19,61,6]),(50,(0,0))),((wA .u8 cap X),(5,(0,0))),((wA .u8 c8 Y),(5,(0,0)))]⟩
structure fn5K_c (_:fn5M_c k_1 Z k n cap X) (i m c8:Nat) (Y:List Int):Prop where
  hY:Y=beL 0 (i+1)
  hYl:Y.length=i+1
  hi:i+1≤16
  hc8:i+1≤c8
  hm:m=0 / 256 ^ i
  hmb:m≤8000000000
variable {k_6:fn5K_c k_4 i m c8 Y}
abbrev fn5K (_:fn5K_c k_4 i m c8 Y):FS:=⟨false,54,[(2,.pointer (some ⟨0,0,none⟩)),(6,.slice (some ⟨1,0,none⟩) n cap),(7,.int .u64 (m:Int)),(8,.slice (some ⟨2,0,none⟩) (i+1) c8),(9,.int .i64 (i:Int))],[((wA .i64 14 [64,80,28,34,39,14,18,41,1,8,7,19,61,6]),(50,(0,0))),((wA .u8 cap X),(5,(0,0))),((wA .u8 c8 Y),(5,(0,0)))]⟩
structure fn5N_c (_:fn5M_c k_1 Z k n cap X) (i m c8:Nat) (Y:List Int):Prop where
  hY:Y=beL 0 (i+1)
  hYl:Y.length=i+1
  hi:i+1≤16
  hc8:i+1≤c8
  hm:m=0 / 256 ^ (i+1)
  hmb:m≤8000000000
variable {k_7:fn5N_c k_4 i m c8 Y}
abbrev fn5N (_:fn5N_c k_4 i m c8 Y):FS:=⟨false,54,[(2,.pointer (some ⟨0,0,none⟩)),(6,.slice (some ⟨1,0,none⟩) n cap),(7,.int .u64 (m:Int)),(8,.slice (some ⟨2,0,none⟩) (i+1) c8),(9,.int .i64 (i:Int))],[((wA .i64 14 [64,80,28,34,39,14,18,41,1,8,7,19,61,6]),(50,(0,0))),((wA .u8 cap X),(5,(0,0))),((wA .u8 c8 Y),(5,(0,0)))]⟩
theorem fn5d:fn5A_R [1,1,1,1,1,1,1,0,1,0,0,0] (fn5I k_4) .normal (fun z_=>z_=fn5I k_4):=by
  have⟨hN⟩:=id k_1
  have⟨hX,hXl,hn,hc,hZ,hk⟩:=id k_4
  exact rn_ev (yty.en tab0) fn5A_h mixed _ none [none,none,some (.bool true)] [(6,((4:Int)≠0)),(1,true=true)] 0 (fun j M=>by kernel_rfl) (A1 (by decide) (A1 (by first|rfl|assumption) A0)) rfl
theorem fn5e (hlt:i<16):fn5A_R [1,1,1,1,1,1,1,0,1,0,0,0] (fn5J k_5) .normal (fun z_=>z_=fn5J k_5):=by
  have⟨hN⟩:=id k_1
  have⟨hX,hXl,hn,hc,hZ,hk⟩:=id k_4
  have⟨hY,hYl,hi,hc8,hm,hmb⟩:=id k_5
  exact rn_ev (yty.en tab0) fn5A_h mixed _ none [none,none,some (.bool true)] [(6,((4:Int)≠0)),(1,(decide ((i:Int)<16))=true)] 0 (fun j M=>by kernel_rfl) (A1 (by decide) (A1 (decide_eq_true (by omega)) A0)) rfl
structure fn5P_c (_:fn5M_c k_1 Z k n cap X) (i m c8:Nat) (Y:List Int):Prop where
  hY:Y=beL 0 i
  hYl:Y.length=i
  hi:i=16
  hc8:i≤c8
  hm:m=0 / 256 ^ i
  hmb:m≤8000000000
variable {k_8:fn5P_c k_4 i m c8 Y}
abbrev fn5P (_:fn5P_c k_4 i m c8 Y):FS:=⟨false,54,[(2,.pointer (some ⟨0,0,none⟩)),(6,.slice (some ⟨1,0,none⟩) n cap),(7,.int .u64 (m:Int)),(8,.slice (some ⟨2,0,none⟩) i c8),(9,.int .i64 (i:Int))],[((wA .i64 14 [64,80,28,34,39,14,18,41,1,8,7,19,61,6]),(50,(0,0))),((wA .u8 cap X),(5,(0,0))),((wA .u8 c8 Y),(5,(0,0)))]⟩
theorem fn5f (hge:¬ i<16):fn5A_R [1,1,1,1,1,1,1,0,1,0,0,0] (fn5J k_5) (.exit 2) (fun z_=>∃(k_8:fn5P_c k_4 i m c8 Y),z_=fn5P k_8):=by
  have⟨hN⟩:=id k_1
  have⟨hX,hXl,hn,hc,hZ,hk⟩:=id k_4
  have⟨hY,hYl,hi,hc8,hm,hmb⟩:=id k_5
  exact rn_ev (yty.en tab0) fn5A_h mixed _ none [none,none,some (.bool false)] [(6,((4:Int)≠0)),(1,(decide ((i:Int)<16))=false)] 0 (fun j M=>by kernel_rfl) (A1 (by decide) (A1 (decide_eq_false (by omega)) A0)) ⟨⟨hY,hYl,by omega,hc8,hm,hmb⟩,rfl⟩
theorem fn5g:fn5A_R [1,1,1,1,1,1,1,0,1,0,0,1,0,0,0] (fn5I k_4) .normal (fun z_=>∃(k1:Nat) (k_6:fn5K_c k_4 0 0 k1 (([0]:List Int) ++ [])),z_=fn5K k_6):=by
  have⟨hN⟩:=id k_1
  have⟨hX,hXl,hn,hc,hZ,hk⟩:=id k_4
  refine rn_reg none (by kernel_rfl) fun j c0 ch0=> ?_
  refine rl_app (yty.en tab0) apB apB.ht 5 [] [(2,((256:Int)≠0))] 2 [((wA .i64 14 [64,80,28,34,39,14,18,41,1,8,7,19,61,6]),(50,(0,0))),((wA .u8 cap X),(5,(0,0))),((wA .u8 1 [0]),(5,(0,0)))] 2 1 1 ([0]:List Int) ([]:List Int) (.slice none 0 0) (some 48) (by kernel_rfl) (A1 (by decide) A0) rfl (by simp) src_nil (by simp) fun n1 k1 M1 c1_ e1_ hn1 hk1=> ?_
  try simp only[zL] at hn1
  obtain rfl:n1=1:=hn1
  exact rl_end (E:=(yty.en tab0)) _ [] [] 1 (fun M=>by kernel_rfl) A0 ⟨k1,⟨by simp[beL],rfl,by omega,by omega,by simp,by omega⟩,rfl⟩
theorem fn5h (hlt:i<16):fn5A_R [1,1,1,1,1,1,1,0,1,0,0,1,0,0,0] (fn5J k_5) .normal (fun z_=>∃(k1:Nat) (k_6:fn5K_c k_4 i m k1 (([((m%256:Nat):Int)]:List Int) ++ Y)),z_=fn5K k_6):=by
  have⟨hN⟩:=id k_1
  have⟨hX,hXl,hn,hc,hZ,hk⟩:=id k_4
  have⟨hY,hYl,hi,hc8,hm,hmb⟩:=id k_5
  refine rn_reg (some (true,2)) (by kernel_rfl) fun j c0 ch0=> ?_
  refine rl_app (yty.en tab0) apB apB.ht 5 [some (.int .u64 ((m%256:Nat):Int)),some (.int .u8 ((m%256:Nat):Int))] [(2,(((256:Int)≠0)∧(Int.tmod (m:Int) 256)=((m%256:Nat):Int))),(1,(IntKind.u8.wrap ((m%256:Nat):Int))=((m%256:Nat):Int))] 1 [((wA .i64 14 [64,80,28,34,39,14,18,41,1,8,7,19,61,6]),(50,(0,0))),((wA .u8 cap X),(5,(0,0))),((wA .u8 c8 Y),(5,(0,0))),((wA .u8 1 [((m%256:Nat):Int)]),(5,(0,0)))] 3 1 1 ([((m%256:Nat):Int)]:List Int) Y (.slice (some ⟨2,0,none⟩) i c8) (some 48) (by kernel_rfl) (A1 ⟨(by decide),(by exact tmodN m 256)⟩ (A1 (wu8 (by omega)) A0)) rfl (by simp) (src_wA (i:=2) rfl hYl.symm (by omega)) (by simp only[List.length_cons,List.length_nil];omega) fun n1 k1 M1 c1_ e1_ hn1 hk1=> ?_
  try simp only[zL] at hn1
  obtain rfl:n1=i+1:=by omega
  exact rl_end (E:=(yty.en tab0)) _ [] [] 1 (fun M=>by kernel_rfl) A0 ⟨k1,⟨by rw[hY,hm];rfl,by simp only[List.length_append,List.length_cons,List.length_nil];omega,by omega,by omega,hm,hmb⟩,rfl⟩
theorem fn5i:fn5A_R [1,1,1,1,1,1,1,0,1,0,0,1,0,0,1] (fn5K k_6) .normal (fun z_=>∃(k_7:fn5N_c k_4 i (m / 256) c8 Y),z_=fn5N k_7):=by
  have⟨hN⟩:=id k_1
  have⟨hX,hXl,hn,hc,hZ,hk⟩:=id k_4
  have⟨hY,hYl,hi,hc8,hm,hmb⟩:=id k_6
  exact rn_ev (yty.en tab0) fn5A_h mixed _ none [some (.int .u64 ((m / 256:Nat):Int))] [(2,(((256:Int)≠0)∧(IntKind.u64.wrap (Int.tdiv (m:Int) 256))=((m / 256:Nat):Int)))] 1 (fun j M=>by kernel_rfl) (A1 ⟨(by decide),(by exact tdivN_u64 m 256 (by omega))⟩ A0) ⟨⟨hY,hYl,hi,hc8,by rw[hm,Nat.div_div_eq_div_mul,← Nat.pow_succ],by omega⟩,rfl⟩
theorem fn5j:fn5A_R [1,1,1,1,1,1,1,0,1,0,0,1,1] (fn5N k_7) .normal (fun z_=>∃(k_5:fn5J_c k_4 (i+1) m c8 Y),z_=fn5J k_5):=by
  have⟨hN⟩:=id k_1
  have⟨hX,hXl,hn,hc,hZ,hk⟩:=id k_4
  have⟨hY,hYl,hi,hc8,hm,hmb⟩:=id k_7
  exact rn_ev (yty.en tab0) fn5A_h mixed _ none [some (.int .i64 ((i+1:Nat):Int))] [(3,(IntKind.i64.wrap ((i:Int)+1))=((i+1:Nat):Int))] 1 (fun j M=>by kernel_rfl) (A1 (wi64 (by omega)) A0) ⟨⟨hY,hYl,by omega,hc8,hm,hmb⟩,rfl⟩
theorem fn5l:fn5A_R [1,1,1,1,1,1,1,0,1,0,0,1,0,0] (fn5I k_4) .normal (fun z_=>∃(k10:Nat) (k_7:fn5N_c k_4 0 (0 / 256) k10 (([0]:List Int) ++ [])),z_=fn5N k_7):=by
  refine rn_seq (w:= [1,1,1,1,1,1,1,0,1,0,0,1,0,0]) (by kernel_rfl) fn5g ?_
  rintro _ ⟨k10,k_6,rfl⟩
  exact(fn5i).mono fun _ ⟨k_7,e_⟩=>⟨k10,k_7,e_⟩
theorem fn5k:fn5A_R [1,1,1,1,1,1,1,0,1,0,0,1,0] (fn5I k_4) .normal (fun z_=>∃(k10:Nat) (k_7:fn5N_c k_4 0 (0 / 256) k10 (([0]:List Int) ++ [])),z_=fn5N k_7):=rn_block (k:=3) (w:= [1,1,1,1,1,1,1,0,1,0,0,1,0]) (by kernel_rfl) fn5l
theorem fn5n (hlt:i<16):fn5A_R [1,1,1,1,1,1,1,0,1,0,0,1,0,0] (fn5J k_5) .normal (fun z_=>∃(k10:Nat) (k_7:fn5N_c k_4 i (m / 256) k10 (([((m%256:Nat):Int)]:List Int) ++ Y)),z_=fn5N k_7):=by
  refine rn_seq (w:= [1,1,1,1,1,1,1,0,1,0,0,1,0,0]) (by kernel_rfl) (fn5h hlt) ?_
  rintro _ ⟨k10,k_6,rfl⟩
  exact(fn5i).mono fun _ ⟨k_7,e_⟩=>⟨k10,k_7,e_⟩
theorem fn5m (hlt:i<16):fn5A_R [1,1,1,1,1,1,1,0,1,0,0,1,0] (fn5J k_5) .normal (fun z_=>∃(k10:Nat) (k_7:fn5N_c k_4 i (m / 256) k10 (([((m%256:Nat):Int)]:List Int) ++ Y)),z_=fn5N k_7):=rn_block (k:=3) (w:= [1,1,1,1,1,1,1,0,1,0,0,1,0]) (by kernel_rfl) (fn5n hlt)
theorem fn5o:fn5A_R [1,1,1,1,1,1,1,0,1,0,0] (fn5I k_4) .normal (fun z_=>∃(k101:Nat) (k_5:fn5J_c k_4 (0+1) (0 / 256) k101 (([0]:List Int) ++ [])),z_=fn5J k_5):=by
  refine rn_seq (w:= [1,1,1,1,1,1,1,0,1,0,0]) (by kernel_rfl) fn5d ?_
  rintro _ rfl
  refine rn_seq (w:= [1,1,1,1,1,1,1,0,1,0,0,1]) (by kernel_rfl) fn5k ?_
  rintro _ ⟨k101,k_7,rfl⟩
  exact(fn5j).mono fun _ ⟨k_5,e_⟩=>⟨k101,k_5,e_⟩
theorem fn5p (hlt:i<16):fn5A_R [1,1,1,1,1,1,1,0,1,0,0] (fn5J k_5) .normal (fun z_=>∃(k101:Nat) (k_5:fn5J_c k_4 (i+1) (m / 256) k101 (([((m%256:Nat):Int)]:List Int) ++ Y)),z_=fn5J k_5):=by
  refine rn_seq (w:= [1,1,1,1,1,1,1,0,1,0,0]) (by kernel_rfl) (fn5e hlt) ?_
  rintro _ rfl
  refine rn_seq (w:= [1,1,1,1,1,1,1,0,1,0,0,1]) (by kernel_rfl) (fn5m hlt) ?_
  rintro _ ⟨k101,k_7,rfl⟩
  exact(fn5j).mono fun _ ⟨k_5,e_⟩=>⟨k101,k_5,e_⟩
theorem fn5q:fn5A_R [1,1,1,1,1,1,1,0,1] (fn5I k_4) .normal (fun z_=>∃(i m c8:Nat) (Y:List Int) (k_8:fn5P_c k_4 i m c8 Y),z_=fn5P k_8):=by
  refine rn_loop (k:=2) (w:= [1,1,1,1,1,1,1,0,1]) (by kernel_rfl) (fun n_ z_=>(n_=16 - 0∧z_=fn5I k_4)∨∃(i m c8:Nat) (Y:List Int) (k_5:fn5J_c k_4 i m c8 Y),n_=16 - i∧z_=fn5J k_5) _ (.inl ⟨rfl,rfl⟩) ?_
  rintro n_ _ (⟨hn_,rfl⟩|⟨i,m,c8,Y,k_5,hn_,rfl⟩)
  · have ⟨hN⟩ := k_1
    have⟨hX,hXl,hn,hc,hZ,hk⟩:=k_4
    have hlt:0<16:=by omega
    exact fn5o.x fun _ ⟨k101_,k_5,e_⟩=> .inl ⟨rfl,16 - (0+1),by omega,.inr ⟨_,_,_,_,k_5,rfl,e_⟩⟩
  · have ⟨hN⟩ := k_1
    have⟨hX,hXl,hn,hc,hZ,hk⟩:=k_4
    have⟨hY,hYl,hi,hc8,hm,hmb⟩:=k_5
    by_cases hlt:i<16
    · exact(fn5p hlt).x fun _ ⟨k101_,k_5,e_⟩=> .inl ⟨rfl,16 - (i+1),by omega,.inr ⟨_,_,_,_,k_5,rfl,e_⟩⟩
    · exact(rn_seqx (w:= [1,1,1,1,1,1,1,0,1,0,0]) (by kernel_rfl) (fn5f hlt) (by simp)).x fun _ ⟨k_8,e_⟩=> .inr ⟨rfl,⟨i,m,c8,Y,k_8,e_⟩⟩
theorem fn5r:fn5A_R [1,1,1,1,1,1,1,0] (fn5H k_4) .normal (fun z_=>∃(i1 m1 c81:Nat) (Y1:List Int) (k_8:fn5P_c k_4 i1 m1 c81 Y1),z_=fn5P k_8):=by
  refine rn_seq (w:= [1,1,1,1,1,1,1,0]) (by kernel_rfl) fn5c ?_
  rintro _ rfl
  exact fn5q
structure fn5O_c (_:fn5P_c k_4 i m c8 Y) (n9 c9:Nat):Prop where
  hn9:n9=n+i
  hc9:n9≤c9
variable {n9 c9:Nat} {k_9:fn5O_c k_8 n9 c9}
abbrev fn5O (_:fn5O_c k_8 n9 c9):FS:=⟨false,54,[(4,.slice (some ⟨1,0,none⟩) n9 c9)],[((wA .i64 14 [64,80,28,34,39,14,18,41,1,8,7,19,61,6]),(50,(0,0))),((wA .u8 c9 (X ++ Y)),(5,(0,0))),((wA .u8 c8 Y),(5,(0,0)))]⟩
theorem fn5s:fn5A_R [1,1,1,1,1,1,1,1,0] (fn5P k_8) .normal (fun z_=>∃(n1 k1:Nat) (k_9:fn5O_c k_8 n1 k1),z_=fn5O k_9):=by
  have⟨hN⟩:=id k_1
  have⟨hX,hXl,hn,hc,hZ,hk⟩:=id k_4
  have⟨hY,hYl,hi,hc8,hm,hmb⟩:=id k_8
  refine rn_reg none (by kernel_rfl) fun j c0 ch0=> ?_
  refine rl_app (yty.en tab0) apB apB.ht 2 [] [] 2 [((wA .i64 14 [64,80,28,34,39,14,18,41,1,8,7,19,61,6]),(50,(0,0))),((wA .u8 cap X),(5,(0,0))),((wA .u8 c8 Y),(5,(0,0)))] 1 n cap X Y (.slice (some ⟨2,0,none⟩) i c8) (some 53) (by kernel_rfl) A0 (by omega) (by omega) (src_wA (i:=2) rfl hYl.symm (by omega)) (by omega) fun n1 k1 M1 c1_ e1_ hn1 hk1=> ?_
  try simp only[zL] at hn1
  exact rl_end (E:=(yty.en tab0)) _ [] [] 1 (fun M=>by kernel_rfl) A0 ⟨n1,k1,⟨by omega,by omega⟩,rfl⟩
theorem fn5t:fn5A_R [1,1,1,1,1,1,1,1,1] (fn5O k_9) .ret (fun z_=>z_=fn5O k_9):=rn_ev (yty.en tab0) fn5A_h mixed _ none [] [] 0 (fun j M=>by kernel_rfl) A0 rfl
theorem fn5u':fn5A_R [] (fn5A k_1) .ret (fun z_=>∃(cap2 k13 k4 n4 cap4:Nat) (X4:List Int) (i17 m17 c817:Nat) (Y17:List Int) (n18 k18:Nat) (k_4:fn5M_c k_1 ((240 - (0+1)%128)%128) k4 n4 cap4 X4) (k_8:fn5P_c k_4 i17 m17 c817 Y17) (k_9:fn5O_c k_8 n18 k18),z_=fn5O k_9):=by
  refine rn_seq (w:= []) (by kernel_rfl) fn50 ?_
  rintro _ rfl
  refine rn_seq (w:= [1]) (by kernel_rfl) fn51 ?_
  rintro _ rfl
  refine rn_seq (w:= [1,1]) (by kernel_rfl) fn52 ?_
  rintro _ ⟨cap2,k_2,rfl⟩
  refine rn_seq (w:= [1,1,1]) (by kernel_rfl) fn53 ?_
  rintro _ ⟨k13,k_3,rfl⟩
  refine rn_seq (w:= [1,1,1,1]) (by kernel_rfl) fn58 ?_
  rintro _ ⟨k4,n4,cap4,X4,k_4,rfl⟩
  refine rn_seq (w:= [1,1,1,1,1]) (by kernel_rfl) fn5a ?_
  rintro _ rfl
  refine rn_seq (w:= [1,1,1,1,1,1]) (by kernel_rfl) fn5b ?_
  rintro _ rfl
  refine rn_seq (w:= [1,1,1,1,1,1,1]) (by kernel_rfl) fn5r ?_
  rintro _ ⟨i17,m17,c817,Y17,k_8,rfl⟩
  refine rn_seq (w:= [1,1,1,1,1,1,1,1]) (by kernel_rfl) fn5s ?_
  rintro _ ⟨n18,k18,k_9,rfl⟩
  exact(fn5t).mono fun _ e_=>⟨cap2,k13,k4,n4,cap4,X4,i17,m17,c817,Y17,n18,k18,k_4,k_8,k_9,e_⟩
abbrev fn5A_s (N:List Int) (j:Nat→Value):List Value:=([.agg (wA .i64 14 [64,80,28,34,39,14,18,41,1,8,7,19,61,6]),.slice none 0 0] ++ (JU 52))
abbrev fn5A_m (N:List Int):List Mb:= []
abbrev fn5O_s (N:List Int) (Z k n cap:Nat) (X:List Int) (i m c8:Nat) (Y:List Int) (n9 c9:Nat) (j:Nat→Value):List Value:=(J j 0 4 ++ ([.slice (some ⟨1,0,none⟩) n9 c9] ++ (J j 5 49)))
abbrev fn5O_m (N:List Int) (Z k n cap:Nat) (X:List Int) (i m c8:Nat) (Y:List Int) (n9 c9:Nat):List Mb:= [((wA .i64 14 [64,80,28,34,39,14,18,41,1,8,7,19,61,6]),(50,(0,0))),((wA .u8 c9 (X ++ Y)),(5,(0,0))),((wA .u8 c8 Y),(5,(0,0)))]
theorem fn5u (N:List Int) (j:Nat→Value) (hN:N= [])  :Runs Tryd.prog (cAt [] (bdy Tryd.f47)) ⟨fn5A_s N j,fn5A_m N,c0,ch0⟩ (fun e s=>e= .ret∧∃(cap2:Nat) (k13:Nat) (k4:Nat) (n4:Nat) (cap4:Nat) (X4:List Int) (i17:Nat) (m17:Nat) (c817:Nat) (Y17:List Int) (n18:Nat) (k18:Nat),∃j c ch,(X4=N ++ [128] ++ List.replicate k4 0)∧(X4.length=n4)∧(n4=0+1+k4)∧(n4≤cap4)∧(((240 - (0+1)%128)%128)=(240 - (0+1)%128)%128)∧(k4=((240 - (0+1)%128)%128))∧(Y17=beL 0 i17)∧(Y17.length=i17)∧(i17=16)∧(i17≤c817)∧(m17=0 / 256 ^ i17)∧(m17≤8000000000)∧(n18=n4+i17)∧(n18≤k18)∧s=⟨fn5O_s N ((240 - (0+1)%128)%128) k4 n4 cap4 X4 i17 m17 c817 Y17 n18 k18 j,fn5O_m N ((240 - (0+1)%128)%128) k4 n4 cap4 X4 i17 m17 c817 Y17 n18 k18,c,ch⟩) 0:=by
  refine(Rn.old (fn5u' (k_1:=(⟨hN⟩:fn5A_c N))) j (by kernel_rfl)).mono ?_
  rintro e s ⟨rfl,_,⟨cap2,k13,k4,n4,cap4,X4,i17,m17,c817,Y17,n18,k18,k_4,k_8,k_9,rfl⟩,j,c,ch,rfl⟩
  have⟨x_hX,x_hXl,x_hn,x_hc,x_hZ,x_hk⟩:=k_4
  have⟨x_hY,x_hYl,x_hi,x_hc8,x_hm,x_hmb⟩:=k_8
  have⟨x_hn9,x_hc9⟩:=k_9
  exact⟨rfl,cap2,k13,k4,n4,cap4,X4,i17,m17,c817,Y17,n18,k18,j,c,ch,x_hX,x_hXl,x_hn,x_hc,x_hZ,x_hk,x_hY,x_hYl,x_hi,x_hc8,x_hm,x_hmb,x_hn9,x_hc9,by kernel_rfl⟩
end Go.Proofs.YtcfnjcacdmkgbaaDoor
