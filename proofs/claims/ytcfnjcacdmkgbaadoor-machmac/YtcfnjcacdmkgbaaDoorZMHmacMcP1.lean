import Derived.Test.YtcfnjcacdmkgbaaDoorZMHmacMcC1
set_option linter.unusedSimpArgs false
set_option linter.unusedVariables false
/-! The document's HMAC. -/
namespace Go.Proofs.YtcfnjcacdmkgbaaDoor
open Go.RowKit Go.Ev
variable {c0:Prop} {ch0:List (Option Value)}
theorem with_lift {P:Program} {f:FuncId} {mem:List Mb} {i:Nat} {a:Array Value} {t:Tq} {o l cp n ng:Nat} {b:Int} {L:List Int} {e:TypeId} (h:MakesA P f [(a,t)] [.slice (some ⟨0,o,none⟩) l cp,.int .i64 (n:Int),.int .u8 b] .u8 n L e) (hm:mem[i]? =some (a,t)):MakesA P f mem [.slice (some ⟨i,o,none⟩) l cp,.int .i64 (n:Int),.int .u8 b] .u8 n L e ng:=fun w β hw hg=>
  h w (fun _ => β i) (fun j x hx => by
    cases j with
    | zero =>
      simp only[List.getElem?_cons_zero,Option.some.injEq] at hx
      subst hx
      exact hw i _ hm
    |succ j=>simp at hx) (fun i h=>by simp at h)
theorem src_k {mem:List Mb} {i n k:Nat} {L:List Int} {st:Tq} (hm:mem[i]? =some (wA .u8 k L,st)) (hn:n=L.length) (hk:n≤k):SrcOk .u8 mem (.slice (some ⟨i,0,none⟩) n k) (bL (wA .u8 k L) 0 n):=by
  rw[bLk hn.symm hk]
  exact src_wA hm hn (by omega)
def dh2A_h (i:Nat):Hn:=⟨0,[],[],[],[]⟩
abbrev dh2A_R (w:List Nat) (S:FS) (e:Exit) (K:FS→Prop):Prop:=Rn Tryd.prog (cAt w (bdy Tryd.f19)) S e K 2000004
structure dh2A_c (g0 g1 t1 t2:Tq) (a1 a2:Array Value) (b1 b2:Option Addr) (l1 c1 l2 c2:Nat) (N1 N2:List Int):Prop where
  hk:BytesOk [(wA .u32 64 kL2,g0),(wA .u64 80 kL5,g1),(a1,t1),(a2,t2)] b1 l1 c1
  hN1:bytesOf [(wA .u32 64 kL2,g0),(wA .u64 80 kL5,g1),(a1,t1),(a2,t2)] b1 l1=N1
  ht:BytesOk [(wA .u32 64 kL2,g0),(wA .u64 80 kL5,g1),(a1,t1),(a2,t2)] b2 l2 c2
  hN2:bytesOf [(wA .u32 64 kL2,g0),(wA .u64 80 kL5,g1),(a1,t1),(a2,t2)] b2 l2=N2
  hl:l1≤100000000∧l2≤100000000
variable {g0 g1 t1 t2:Tq} {a1 a2:Array Value} {b1 b2:Option Addr} {l1 c1 l2 c2:Nat} {N1 N2:List Int} {k_1:dh2A_c g0 g1 t1 t2 a1 a2 b1 b2 l1 c1 l2 c2 N1 N2}
abbrev dh2A (_:dh2A_c g0 g1 t1 t2 a1 a2 b1 b2 l1 c1 l2 c2 N1 N2):FS:=⟨true,41,[(0,.slice b1 l1 c1),(1,.slice b2 l2 c2)],[((wA .u32 64 kL2),g0),((wA .u64 80 kL5),g1),(a1,t1),(a2,t2)]⟩
abbrev dh2B (_:dh2A_c g0 g1 t1 t2 a1 a2 b1 b2 l1 c1 l2 c2 N1 N2):FS:=⟨false,41,[(0,.slice b1 l1 c1),(1,.slice b2 l2 c2),(4,.pointer (some ⟨4,0,none⟩))],[((wA .u32 64 kL2),g0),((wA .u64 80 kL5),g1),(a1,t1),(a2,t2),((wA .u8 32 []),(25,(0,0)))]⟩
theorem dh20:dh2A_R [0] (dh2A k_1) .normal (fun z_=>z_=dh2B k_1):=rn_ev (yty.enm (pDS2 :: pDS5 :: tabM3) [mMask] 2000004) dh2A_h mixed _ none [] [] 0 (fun j M=>by kernel_rfl) A0 rfl
structure dh2C_c (_:dh2A_c g0 g1 t1 t2 a1 a2 b1 b2 l1 c1 l2 c2 N1 N2) (n k:Nat):Prop where
  hn:n=l1
  hkk:n≤k
  hNl:N1.length=l1
variable {n k:Nat} {k_2:dh2C_c k_1 n k}
abbrev dh2C (_:dh2C_c k_1 n k):FS:=⟨false,41,[(1,.slice b2 l2 c2),(4,.pointer (some ⟨4,0,none⟩)),(5,.slice (some ⟨5,0,none⟩) n k)],[((wA .u32 64 kL2),g0),((wA .u64 80 kL5),g1),(a1,t1),(a2,t2),((wA .u8 32 []),(25,(0,0))),((wA .u8 k N1),(5,(0,0)))]⟩
theorem dh21:dh2A_R [1,0] (dh2B k_1) .normal (fun z_=>∃(n1 k1:Nat) (k_2:dh2C_c k_1 n1 k1),z_=dh2C k_2):=by
  have⟨hk,hN1,ht,hN2,hl⟩:=id k_1
  have hNl:N1.length=l1:=by rw[← hN1];exact hk.len
  have hTl:N2.length=l2:=by rw[← hN2];exact ht.len
  have hx1:∀ i M,4≤i→al i M (.slice b1 l1 c1)= .slice b1 l1 c1:=fun i M h=>al_b hk h
  have hx2:∀ i M,4≤i→al i M (.slice b2 l2 c2)= .slice b2 l2 c2:=fun i M h=>al_b ht h
  refine rn_reg none (by kernel_rfl) fun j c0 ch0=> ?_
  refine rl_app (yty.enm (pDS2 :: pDS5 :: tabM3) [mMask] 2000004) apB apB.ht 2 [] [] 1 [((wA .u32 64 kL2),g0),((wA .u64 80 kL5),g1),(a1,t1),(a2,t2),((wA .u8 32 []),(25,(0,0))),((wA .u8 0 []),(5,(0,0)))] 5 0 0 ([]:List Int) N1 (.slice b1 l1 c1) (some 13) (by kernel_rfl) A0 rfl (Nat.zero_le _) (SrcOk.app (x:= [_,_]) (hN1 ▸ hk.src)) (by simp;omega) fun n1 k1 M1 c1_ e1_ hn1 hk1=> ?_
  try simp only[zL] at hn1
  exact rl_end (E:=(yty.enm (pDS2 :: pDS5 :: tabM3) [mMask] 2000004)) (⟨false,41,[(1,al 5 M1 (.slice b2 l2 c2)),(4,.pointer (some ⟨4,0,none⟩)),(5,.slice (some ⟨5,0,none⟩) n1 k1)],[((wA .u32 64 kL2),g0),((wA .u64 80 kL5),g1),(a1,t1),(a2,t2),((wA .u8 32 []),(25,(0,0))),((wA .u8 k1 (([]:List Int) ++ N1)),(5,(0,0)))]⟩) [] [] 1 (fun M=>by kernel_rfl) A0 ⟨n1,k1,⟨by simp at hn1;omega,hk1,hNl⟩,(by
    delta dh2C
    simp only[hx1 _ _ (by decide:4≤5),hx2 _ _ (by decide:4≤5)]
    try kernel_rfl)⟩
structure dh2D_c (_:dh2A_c g0 g1 t1 t2 a1 a2 b1 b2 l1 c1 l2 c2 N1 N2) (tk:Tq) (n k:Nat) (X:List Int):Prop where
  hX:X=key2 N1
  hXb:∀ x ∈ X,0≤x∧x<256
  hn:n=X.length
  hkk:n≤k
  hnl:n≤64
variable {tk:Tq} {X:List Int} {k_3:dh2D_c k_1 tk n k X}
abbrev dh2D (_:dh2D_c k_1 tk n k X):FS:=⟨false,41,[(1,.slice b2 l2 c2),(4,.pointer (some ⟨4,0,none⟩)),(5,.slice (some ⟨5,0,none⟩) n k)],[((wA .u32 64 kL2),g0),((wA .u64 80 kL5),g1),(a1,t1),(a2,t2),((wA .u8 32 []),(25,(0,0))),((wA .u8 k X),tk)]⟩
theorem dh22 (hc:¬ 64<l1):dh2A_R [1,1,0] (dh2C k_2) .normal (fun z_=>∃(k_3:dh2D_c k_1 (5,(0,0)) n k N1),z_=dh2D k_3):=by
  have⟨hk,hN1,ht,hN2,hl⟩:=id k_1
  have⟨hn,hkk,hNl⟩:=id k_2
  have hNb:∀ x ∈ N1,0≤x∧x<256:=by rw[← hN1];exact hk.bt
  exact rn_ev (yty.enm (pDS2 :: pDS5 :: tabM3) [mMask] 2000004) dh2A_h mixed _ none [some (.bool false)] [(5,(decide (64<(n:Int)))=false)] 0 (fun j M=>by kernel_rfl) (A1 (decide_eq_false (by omega)) A0) ⟨⟨by unfold key2;rw[if_pos (by omega)],hNb,by omega,hkk,by omega⟩,rfl⟩
theorem dh23 (hc : 64 < l1) : dh2A_R [1, 1, 0] (dh2C k_2) .normal (fun z_ => ∃ (k_3 : dh2D_c k_1 (25, (0, 0)) 32 32 (sh2 (bL (wA .u8 k N1) 0 n))), z_ = dh2D k_3) := by
  have⟨hk,hN1,ht,hN2,hl⟩:=id k_1
  have⟨hn,hkk,hNl⟩:=id k_2
  have hNb:∀ x ∈ N1,0≤x∧x<256:=by rw[← hN1];exact hk.bt
  exact rn_evM (yty.enm (pDS2 :: pDS5 :: tabM3) [mMask] 2000004) dh2A_h mixed (fun M => ⟨false, 41, [(1, ov 5 6 M (.slice b2 l2 c2)), (4, .pointer (some ⟨4, 0, none⟩)), (5, .slice (some ⟨5, 0, none⟩) 32 32)], [((wA .u32 64 kL2), g0), ((wA .u64 80 kL5), g1), (a1, t1), (a2, t2), ((wA .u8 32 []), (25, (0, 0))), ((wA .u8 32 (sh2 (bL (wA .u8 k N1) 0 n))), (25, (0, 0)))]⟩) (some (true, 5)) [some (.bool true)] [(5, (decide (64 < (n:Int))) = true), (2, (SrcOk .u8 [((wA .u32 64 kL2), g0), ((wA .u64 80 kL5), g1), (a1, t1), (a2, t2), ((wA .u8 32 []), (25, (0, 0))), ((wA .u8 k N1), (5, (0, 0)))] (.slice (some ⟨5, 0, none⟩) n k) (bL (wA .u8 k N1) 0 n) ∧ (∃ x, [((wA .u32 64 kL2), g0), ((wA .u64 80 kL5), g1), (a1, t1), (a2, t2), ((wA .u8 32 []), (25, (0, 0))), ((wA .u8 k N1), (5, (0, 0)))][0]? = some x) ∧ (bL (wA .u8 k N1) 0 n).length = n ∧ n ≤ 1000000000)), (0, ((wA .u8 32 (sh2 (bL (wA .u8 k N1) 0 n))).all (fun v => v.oneCell') = true))] 2 (fun j M => by kernel_rfl) (A1 (decide_eq_true (by omega)) (A1 ⟨src_k rfl (by omega) hkk, ⟨_, rfl⟩, bL_len _ _ _, by omega⟩ (A1 (wA_one _ _ _) A0))) fun M => ⟨⟨by rw [bLk (by omega) hkk]; unfold key2; rw [if_neg (by omega)], sh2_bt _, (sh2_len _).symm, Nat.le_refl _, by decide⟩, (by
    delta dh2D
    rcases ht with⟨rfl,rfl,rfl⟩|⟨i0,o0,src0,st0,rfl,hm0,_⟩
    · kernel_rfl
    · have hi0 : i0 < 4 := (List.getElem?_eq_some_iff.1 hm0).1
      have hi1:i0=0∨i0=1∨i0=2∨i0=3:=by omega
      rcases hi1 with rfl|rfl|rfl|rfl
      · show _ = _
        kernel_rfl
      · show _ = _
        kernel_rfl
      · show _ = _
        kernel_rfl
      · show _ = _
        kernel_rfl)⟩
theorem dh24:dh2A_R [1,1,0] (dh2C k_2) .normal (fun z_=>∃(tk:Tq) (n3 k3:Nat) (X:List Int) (k_3:dh2D_c k_1 tk n3 k3 X),z_=dh2D k_3):=by
  by_cases hc:64<l1
  · exact(dh23 hc).mono fun _ ⟨k_3,e_⟩=>⟨_,_,_,_,k_3,e_⟩
  · exact(dh22 hc).mono fun _ ⟨k_3,e_⟩=>⟨_,_,_,_,k_3,e_⟩
structure dh2E_c (_:dh2D_c k_1 tk n k X) (c6:Nat):Prop where
  hc6:64≤c6
variable {c6:Nat} {k_4:dh2E_c k_3 c6}
abbrev dh2E (_:dh2E_c k_3 c6):FS:=⟨false,41,[(1,.slice b2 l2 c2),(4,.pointer (some ⟨4,0,none⟩)),(5,.slice (some ⟨5,0,none⟩) n k),(7,.slice (some ⟨6,0,none⟩) 64 c6)],[((wA .u32 64 kL2),g0),((wA .u64 80 kL5),g1),(a1,t1),(a2,t2),((wA .u8 32 []),(25,(0,0))),((wA .u8 k X),tk),((wA .u8 c6 (padL X 54 64)),(5,(0,0)))]⟩
theorem dh25:dh2A_R [1,1,1,0] (dh2D k_3) .normal (fun z_=>∃(k1:Nat) (k_4:dh2E_c k_3 k1),z_=dh2E k_4):=by
  have⟨hk,hN1,ht,hN2,hl⟩:=id k_1
  have⟨hX,hXb,hn,hkk,hnl⟩:=id k_3
  refine rn_reg none (by kernel_rfl) fun j c0 ch0=> ?_
  have hM1:MakesA Tryd.prog 37 [((wA .u32 64 kL2),g0),((wA .u64 80 kL5),g1),(a1,t1),(a2,t2),((wA .u8 32 []),(25,(0,0))),((wA .u8 k X),tk)] [.slice (some ⟨5,0,none⟩) n k,.int .i64 64,.int .u8 54] .u8 64 (padL X 54 64) 5 2:=(by have hw:=With_c (wA .u8 k X) tk 0 n k 64 54 (bt_k hkk hXb) (by omega) (by decide);rw[bLk hn.symm hkk] at hw;exact with_lift hw rfl)
  refine rl_call (yty.enm (pDS2 :: pDS5 :: tabM3) [mMask] 2000004) (call_of Tryd.func37 (by kernel_rfl) (by kernel_rfl)) 1 [] [] 1 6 (some 21) hM1 (by kernel_rfl) A0 fun k1 c1_ e1_ hk1=> ?_
  exact rl_end (E:=(yty.enm (pDS2 :: pDS5 :: tabM3) [mMask] 2000004)) _ [] [] 1 (fun M=>by kernel_rfl) A0 ⟨k1,⟨by rw[padL_len] at hk1;exact hk1⟩,rfl⟩
structure dh2F_c (_:dh2D_c k_1 tk n k X) (m c6:Nat):Prop where
  hm:m=64+l2
  hc6:m≤c6
  hTl:N2.length=l2
variable {m:Nat} {k_5:dh2F_c k_3 m c6}
abbrev dh2F (_:dh2F_c k_3 m c6):FS:=⟨false,41,[(4,.pointer (some ⟨4,0,none⟩)),(5,.slice (some ⟨5,0,none⟩) n k),(7,.slice (some ⟨6,0,none⟩) m c6)],[((wA .u32 64 kL2),g0),((wA .u64 80 kL5),g1),(a1,t1),(a2,t2),((wA .u8 32 []),(25,(0,0))),((wA .u8 k X),tk),((wA .u8 c6 ((padL X 54 64) ++ N2)),(5,(0,0)))]⟩
theorem dh26:dh2A_R [1,1,1,1,0] (dh2E k_4) .normal (fun z_=>∃(n1 k1:Nat) (k_5:dh2F_c k_3 n1 k1),z_=dh2F k_5):=by
  have⟨hk,hN1,ht,hN2,hl⟩:=id k_1
  have⟨hX,hXb,hn,hkk,hnl⟩:=id k_3
  have⟨hc6⟩:=id k_4
  have hNl:N1.length=l1:=by rw[← hN1];exact hk.len
  have hTl:N2.length=l2:=by rw[← hN2];exact ht.len
  have hx1:∀ i M,4≤i→al i M (.slice b1 l1 c1)= .slice b1 l1 c1:=fun i M h=>al_b hk h
  have hx2:∀ i M,4≤i→al i M (.slice b2 l2 c2)= .slice b2 l2 c2:=fun i M h=>al_b ht h
  refine rn_reg none (by kernel_rfl) fun j c0 ch0=> ?_
  refine rl_app (yty.enm (pDS2 :: pDS5 :: tabM3) [mMask] 2000004) apB apB.ht 2 [] [] 2 [((wA .u32 64 kL2),g0),((wA .u64 80 kL5),g1),(a1,t1),(a2,t2),((wA .u8 32 []),(25,(0,0))),((wA .u8 k X),tk),((wA .u8 c6 (padL X 54 64)),(5,(0,0)))] 6 64 c6 (padL X 54 64) N2 (.slice b2 l2 c2) (some 24) (by kernel_rfl) A0 (by rw[padL_len]) (by rw[padL_len];exact hc6) (SrcOk.app (x:= [_,_,_]) (hN2 ▸ ht.src)) (by rw[padL_len];omega) fun n1 k1 M1 c1_ e1_ hn1 hk1=> ?_
  try simp only[zL] at hn1
  exact rl_end (E:=(yty.enm (pDS2 :: pDS5 :: tabM3) [mMask] 2000004)) (⟨false,41,[(4,.pointer (some ⟨4,0,none⟩)),(5,.slice (some ⟨5,0,none⟩) n k),(7,.slice (some ⟨6,0,none⟩) n1 k1)],[((wA .u32 64 kL2),g0),((wA .u64 80 kL5),g1),(a1,t1),(a2,t2),((wA .u8 32 []),(25,(0,0))),((wA .u8 k X),tk),((wA .u8 k1 ((padL X 54 64) ++ N2)),(5,(0,0)))]⟩) [] [] 1 (fun M=>by kernel_rfl) A0 ⟨n1,k1,⟨by rw[padL_len] at hn1;omega,hk1,hTl⟩,(by
    delta dh2F
    simp only[hx2 _ _ (by decide:4≤6)]
    try kernel_rfl)⟩
structure dh2G_c (_:dh2F_c k_3 m c6) (Q:List Int):Prop where
  hQ:Q=sh2 ((padL X 54 64) ++ N2)
variable {Q:List Int} {k_6:dh2G_c k_5 Q}
abbrev dh2G (_:dh2G_c k_5 Q):FS:=⟨false,41,[(4,.pointer (some ⟨4,0,none⟩)),(5,.slice (some ⟨5,0,none⟩) n k),(8,.pointer (some ⟨7,0,none⟩))],[((wA .u32 64 kL2),g0),((wA .u64 80 kL5),g1),(a1,t1),(a2,t2),((wA .u8 32 []),(25,(0,0))),((wA .u8 k X),tk),((wA .u8 c6 ((padL X 54 64) ++ N2)),(5,(0,0))),((wA .u8 32 Q),(25,(0,0)))]⟩
theorem dh27:dh2A_R [1,1,1,1,1,0] (dh2F k_5) .normal (fun z_=>∃(k_6:dh2G_c k_5 (sh2 (bL (wA .u8 c6 ((padL X 54 64) ++ N2)) 0 m))),z_=dh2G k_6):=by
  have⟨hk,hN1,ht,hN2,hl⟩:=id k_1
  have⟨hX,hXb,hn,hkk,hnl⟩:=id k_3
  have⟨hm,hc6,hTl⟩:=id k_5
  exact rn_ev (yty.enm (pDS2 :: pDS5 :: tabM3) [mMask] 2000004) dh2A_h mixed _ none [] [(2,(SrcOk .u8 [((wA .u32 64 kL2),g0),((wA .u64 80 kL5),g1),(a1,t1),(a2,t2),((wA .u8 32 []),(25,(0,0))),((wA .u8 k X),tk),((wA .u8 c6 ((padL X 54 64) ++ N2)),(5,(0,0)))] (.slice (some ⟨6,0,none⟩) m c6) (bL (wA .u8 c6 ((padL X 54 64) ++ N2)) 0 m)∧(∃ x,[((wA .u32 64 kL2),g0),((wA .u64 80 kL5),g1),(a1,t1),(a2,t2),((wA .u8 32 []),(25,(0,0))),((wA .u8 k X),tk),((wA .u8 c6 ((padL X 54 64) ++ N2)),(5,(0,0)))][0]? =some x)∧(bL (wA .u8 c6 ((padL X 54 64) ++ N2)) 0 m).length=m∧m≤1000000000)),(0,((wA .u8 32 (sh2 (bL (wA .u8 c6 ((padL X 54 64) ++ N2)) 0 m))).all (fun v=>v.oneCell')=true))] 0 (fun j M=>by kernel_rfl) (A1 ⟨src_k rfl (by rw[List.length_append,padL_len];omega) hc6,⟨_,rfl⟩,bL_len _ _ _,by omega⟩ (A1 (wA_one _ _ _) A0)) ⟨⟨by rw[bLk (by rw[List.length_append,padL_len];omega) hc6]⟩,rfl⟩
structure dh2H_c (_:dh2G_c k_5 Q) (i p c9:Nat) (Y:List Int):Prop where
  hY:Y=(padL X 92 64) ++ Q.take i
  hYl:Y.length=p
  hp:p=64+i
  hc9:p≤c9
  hi:i=0
variable {i p c9:Nat} {Y:List Int} {k_7:dh2H_c k_6 i p c9 Y}
abbrev dh2H (_:dh2H_c k_6 i p c9 Y):FS:=⟨false,41,[(4,.pointer (some ⟨4,0,none⟩)),(8,.pointer (some ⟨7,0,none⟩)),(9,.slice (some ⟨8,0,none⟩) p c9)],[((wA .u32 64 kL2),g0),((wA .u64 80 kL5),g1),(a1,t1),(a2,t2),((wA .u8 32 []),(25,(0,0))),((wA .u8 k X),tk),((wA .u8 c6 ((padL X 54 64) ++ N2)),(5,(0,0))),((wA .u8 32 Q),(25,(0,0))),((wA .u8 c9 Y),(5,(0,0)))]⟩
theorem dh28:dh2A_R [1,1,1,1,1,1,0] (dh2G k_6) .normal (fun z_=>∃(k1:Nat) (k_7:dh2H_c k_6 0 64 k1 (padL X 92 64)),z_=dh2H k_7):=by
  have⟨hk,hN1,ht,hN2,hl⟩:=id k_1
  have⟨hX,hXb,hn,hkk,hnl⟩:=id k_3
  have⟨hm,hc6,hTl⟩:=id k_5
  have⟨hQ⟩:=id k_6
  refine rn_reg none (by kernel_rfl) fun j c0 ch0=> ?_
  have hM1:MakesA Tryd.prog 37 [((wA .u32 64 kL2),g0),((wA .u64 80 kL5),g1),(a1,t1),(a2,t2),((wA .u8 32 []),(25,(0,0))),((wA .u8 k X),tk),((wA .u8 c6 ((padL X 54 64) ++ N2)),(5,(0,0))),((wA .u8 32 Q),(25,(0,0)))] [.slice (some ⟨5,0,none⟩) n k,.int .i64 64,.int .u8 92] .u8 64 (padL X 92 64) 5 2:=(by have hw:=With_c (wA .u8 k X) tk 0 n k 64 92 (bt_k hkk hXb) (by omega) (by decide);rw[bLk hn.symm hkk] at hw;exact with_lift hw rfl)
  refine rl_call (yty.enm (pDS2 :: pDS5 :: tabM3) [mMask] 2000004) (call_of Tryd.func37 (by kernel_rfl) (by kernel_rfl)) 1 [] [] 1 8 (some 28) hM1 (by kernel_rfl) A0 fun k1 c1_ e1_ hk1=> ?_
  exact rl_end (E:=(yty.enm (pDS2 :: pDS5 :: tabM3) [mMask] 2000004)) _ [] [] 1 (fun M=>by kernel_rfl) A0 ⟨k1,⟨by simp,padL_len _ _ _,rfl,by rw[padL_len] at hk1;exact hk1,rfl⟩,rfl⟩
structure dh2I_c (_:dh2G_c k_5 Q) (i p c9:Nat) (Y:List Int):Prop where
  hY:Y=(padL X 92 64) ++ Q.take i
  hYl:Y.length=p
  hp:p=64+i
  hc9:p≤c9
  hi:i≤32
variable {k_8:dh2I_c k_6 i p c9 Y}
abbrev dh2I (_:dh2I_c k_6 i p c9 Y):FS:=⟨false,41,[(4,.pointer (some ⟨4,0,none⟩)),(8,.pointer (some ⟨7,0,none⟩)),(9,.slice (some ⟨8,0,none⟩) p c9),(10,.int .i64 (i:Int))],[((wA .u32 64 kL2),g0),((wA .u64 80 kL5),g1),(a1,t1),(a2,t2),((wA .u8 32 []),(25,(0,0))),((wA .u8 k X),tk),((wA .u8 c6 ((padL X 54 64) ++ N2)),(5,(0,0))),((wA .u8 32 Q),(25,(0,0))),((wA .u8 c9 Y),(5,(0,0)))]⟩
theorem dh29:dh2A_R [1,1,1,1,1,1,1,0,0] (dh2H k_7) .normal (fun z_=>∃(k_8:dh2I_c k_6 0 p c9 Y),z_=dh2I k_8):=by
  have⟨hk,hN1,ht,hN2,hl⟩:=id k_1
  have⟨hX,hXb,hn,hkk,hnl⟩:=id k_3
  have⟨hm,hc6,hTl⟩:=id k_5
  have⟨hQ⟩:=id k_6
  have⟨hY,hYl,hp,hc9,hi⟩:=id k_7
  exact rn_ev (yty.enm (pDS2 :: pDS5 :: tabM3) [mMask] 2000004) dh2A_h mixed _ none [] [] 1 (fun j M=>by kernel_rfl) A0 ⟨⟨by rw[hY,hi],hYl,by omega,hc9,by omega⟩,rfl⟩
structure dh2J_c (_:dh2G_c k_5 Q) (i p c9:Nat) (Y:List Int):Prop where
  hY:Y=(padL X 92 64) ++ Q.take i
  hYl:Y.length=p
  hp:p=64+i
  hc9:p≤c9
  hi:i<32
variable {k_9:dh2J_c k_6 i p c9 Y}
abbrev dh2J (_:dh2J_c k_6 i p c9 Y):FS:=⟨false,41,[(4,.pointer (some ⟨4,0,none⟩)),(8,.pointer (some ⟨7,0,none⟩)),(9,.slice (some ⟨8,0,none⟩) p c9),(10,.int .i64 (i:Int))],[((wA .u32 64 kL2),g0),((wA .u64 80 kL5),g1),(a1,t1),(a2,t2),((wA .u8 32 []),(25,(0,0))),((wA .u8 k X),tk),((wA .u8 c6 ((padL X 54 64) ++ N2)),(5,(0,0))),((wA .u8 32 Q),(25,(0,0))),((wA .u8 c9 Y),(5,(0,0)))]⟩
theorem dh2a (hlt:i<32):dh2A_R [1,1,1,1,1,1,1,0,1,0,0,0] (dh2I k_8) .normal (fun z_=>∃(k_9:dh2J_c k_6 i p c9 Y),z_=dh2J k_9):=by
  have⟨hk,hN1,ht,hN2,hl⟩:=id k_1
  have⟨hX,hXb,hn,hkk,hnl⟩:=id k_3
  have⟨hm,hc6,hTl⟩:=id k_5
  have⟨hQ⟩:=id k_6
  have⟨hY,hYl,hp,hc9,hi⟩:=id k_8
  exact rn_ev (yty.enm (pDS2 :: pDS5 :: tabM3) [mMask] 2000004) dh2A_h mixed _ none [some (.bool true)] [(3,(decide ((i:Int)<32))=true)] 0 (fun j M=>by kernel_rfl) (A1 (decide_eq_true (by omega)) A0) ⟨⟨hY,hYl,hp,hc9,hlt⟩,rfl⟩
structure dh2K_c (_:dh2G_c k_5 Q) (i p c9:Nat) (Y:List Int):Prop where
  hY:Y=(padL X 92 64) ++ Q.take i
  hYl:Y.length=p
  hp:p=64+i
  hc9:p≤c9
  hi:i=32
variable {k_10:dh2K_c k_6 i p c9 Y}
abbrev dh2K (_:dh2K_c k_6 i p c9 Y):FS:=⟨false,41,[(4,.pointer (some ⟨4,0,none⟩)),(8,.pointer (some ⟨7,0,none⟩)),(9,.slice (some ⟨8,0,none⟩) p c9)],[((wA .u32 64 kL2),g0),((wA .u64 80 kL5),g1),(a1,t1),(a2,t2),((wA .u8 32 []),(25,(0,0))),((wA .u8 k X),tk),((wA .u8 c6 ((padL X 54 64) ++ N2)),(5,(0,0))),((wA .u8 32 Q),(25,(0,0))),((wA .u8 c9 Y),(5,(0,0)))]⟩
theorem dh2b (hge:¬ i<32):dh2A_R [1,1,1,1,1,1,1,0,1,0,0,0] (dh2I k_8) (.exit 0) (fun z_=>∃(k_10:dh2K_c k_6 i p c9 Y),z_=dh2K k_10):=by
  have⟨hk,hN1,ht,hN2,hl⟩:=id k_1
  have⟨hX,hXb,hn,hkk,hnl⟩:=id k_3
  have⟨hm,hc6,hTl⟩:=id k_5
  have⟨hQ⟩:=id k_6
  have⟨hY,hYl,hp,hc9,hi⟩:=id k_8
  exact rn_ev (yty.enm (pDS2 :: pDS5 :: tabM3) [mMask] 2000004) dh2A_h mixed _ none [some (.bool false)] [(3,(decide ((i:Int)<32))=false)] 0 (fun j M=>by kernel_rfl) (A1 (decide_eq_false (by omega)) A0) ⟨⟨hY,hYl,hp,hc9,by omega⟩,rfl⟩
structure dh2L_c (_:dh2G_c k_5 Q) (i p c9:Nat) (Y:List Int):Prop where
  hY:Y=(padL X 92 64) ++ Q.take (i+1)
  hYl:Y.length=p
  hp:p=64+(i+1)
  hc9:p≤c9
  hi:i<32
variable {k_11:dh2L_c k_6 i p c9 Y}
abbrev dh2L (_:dh2L_c k_6 i p c9 Y):FS:=⟨false,41,[(4,.pointer (some ⟨4,0,none⟩)),(8,.pointer (some ⟨7,0,none⟩)),(9,.slice (some ⟨8,0,none⟩) p c9),(10,.int .i64 (i:Int))],[((wA .u32 64 kL2),g0),((wA .u64 80 kL5),g1),(a1,t1),(a2,t2),((wA .u8 32 []),(25,(0,0))),((wA .u8 k X),tk),((wA .u8 c6 ((padL X 54 64) ++ N2)),(5,(0,0))),((wA .u8 32 Q),(25,(0,0))),((wA .u8 c9 Y),(5,(0,0)))]⟩
theorem dh2c:dh2A_R [1,1,1,1,1,1,1,0,1,0,0,1,0,0] (dh2J k_9) .normal (fun z_=>∃(k1:Nat) (k_11:dh2L_c k_6 i (p+1) k1 (Y ++ [(Q.getD i 0)])),z_=dh2L k_11):=by
  have⟨hk,hN1,ht,hN2,hl⟩:=id k_1
  have⟨hX,hXb,hn,hkk,hnl⟩:=id k_3
  have⟨hm,hc6,hTl⟩:=id k_5
  have⟨hQ⟩:=id k_6
  have⟨hY,hYl,hp,hc9,hi⟩:=id k_9
  refine rn_reg (some (false,9)) (by kernel_rfl) fun j c0 ch0=> ?_
  refine rl_app (yty.enm (pDS2 :: pDS5 :: tabM3) [mMask] 2000004) apB apB.ht 5 [some (.int .u8 (Q.getD i 0))] [(4,(0≤(i:Int)∧(i:Int)<((32:Nat):Int))),(0,(((wA .u8 32 Q)[(0+Int.toNat (i:Int)*1)]? =some (.int .u8 (Q.getD i 0)))∧(Q.getD i 0)=(Q.getD i 0)))] 0 [((wA .u32 64 kL2),g0),((wA .u64 80 kL5),g1),(a1,t1),(a2,t2),((wA .u8 32 []),(25,(0,0))),((wA .u8 k X),tk),((wA .u8 c6 ((padL X 54 64) ++ N2)),(5,(0,0))),((wA .u8 32 Q),(25,(0,0))),((wA .u8 c9 Y),(5,(0,0))),((wA .u8 1 [(Q.getD i 0)]),(5,(0,0)))] 8 p c9 Y ([(Q.getD i 0)]) (.slice (some ⟨9,0,none⟩) 1 1) (some 38) (by kernel_rfl) (A1 (by(try simp only[Int.toNat_natCast,wA_size]);omega) (A1 ⟨(wA_get (by omega) (by omega)),rfl⟩ A0)) (by omega) (by omega) (src_wA (i:=9) rfl rfl (Nat.le_refl 1)) (by simp only[List.length_cons,List.length_nil];omega) fun n1 k1 M1 c1_ e1_ hn1 hk1=> ?_
  try simp only[zL] at hn1
  obtain rfl:n1=p+1:=by simp at hn1;omega
  exact rl_end (E:=(yty.enm (pDS2 :: pDS5 :: tabM3) [mMask] 2000004)) _ [] [] 1 (fun M=>by kernel_rfl) A0 ⟨k1,⟨by rw[hY,List.append_assoc,tk_step (by rw[hQ,sh2_len];exact hi)],by simp;omega,by omega,by simp at hn1;omega,hi⟩,rfl⟩
theorem dh2d:dh2A_R [1,1,1,1,1,1,1,0,1,0,0,1,0] (dh2J k_9) .normal (fun z_=>∃(k1:Nat) (k_11:dh2L_c k_6 i (p+1) k1 (Y ++ [(Q.getD i 0)])),z_=dh2L k_11):=rn_block (k:=1) (w:= [1,1,1,1,1,1,1,0,1,0,0,1,0]) (by kernel_rfl) dh2c
theorem dh2e:dh2A_R [1,1,1,1,1,1,1,0,1,0,0,1,1] (dh2L k_11) .normal (fun z_=>∃(k_8:dh2I_c k_6 (i+1) p c9 Y),z_=dh2I k_8):=by
  have⟨hk,hN1,ht,hN2,hl⟩:=id k_1
  have⟨hX,hXb,hn,hkk,hnl⟩:=id k_3
  have⟨hm,hc6,hTl⟩:=id k_5
  have⟨hQ⟩:=id k_6
  have⟨hY,hYl,hp,hc9,hi⟩:=id k_11
  exact rn_ev (yty.enm (pDS2 :: pDS5 :: tabM3) [mMask] 2000004) dh2A_h mixed _ none [some (.int .i64 ((i+1:Nat):Int))] [(3,(IntKind.i64.wrap ((i:Int)+1))=((i+1:Nat):Int))] 1 (fun j M=>by kernel_rfl) (A1 (wi64 (by omega)) A0) ⟨⟨by omega,hYl,by omega,hc9,by omega⟩,rfl⟩
theorem dh2f (hlt:i<32):dh2A_R [1,1,1,1,1,1,1,0,1,0,0] (dh2I k_8) .normal (fun z_=>∃(k11:Nat) (k_8:dh2I_c k_6 (i+1) (p+1) k11 (Y ++ [(Q.getD i 0)])),z_=dh2I k_8):=by
  refine rn_seq (w:= [1,1,1,1,1,1,1,0,1,0,0]) (by kernel_rfl) (dh2a hlt) ?_
  rintro _ ⟨k_9,rfl⟩
  refine rn_seq (w:= [1,1,1,1,1,1,1,0,1,0,0,1]) (by kernel_rfl) dh2d ?_
  rintro _ ⟨k11,k_11,rfl⟩
  exact(dh2e).mono fun _ ⟨k_8,e_⟩=>⟨k11,k_8,e_⟩
theorem dh2g:dh2A_R [1,1,1,1,1,1,1,0,1] (dh2I k_8) .normal (fun z_=>∃(i p c9:Nat) (Y:List Int) (k_10:dh2K_c k_6 i p c9 Y),z_=dh2K k_10):=by
  refine rn_loop (k:=0) (w:= [1,1,1,1,1,1,1,0,1]) (by kernel_rfl) (fun n_ z_=>∃(i p c9:Nat) (Y:List Int) (k_8:dh2I_c k_6 i p c9 Y),n_=32 - i∧z_=dh2I k_8) _ ⟨_,_,_,_,k_8,rfl,rfl⟩ ?_
  rintro n_ _ ⟨i,p,c9,Y,k_8,hn_,rfl⟩
  have⟨hk,hN1,ht,hN2,hl⟩:=k_1
  have⟨hX,hXb,hn,hkk,hnl⟩:=k_3
  have⟨hm,hc6,hTl⟩:=k_5
  have⟨hQ⟩:=k_6
  have⟨hY,hYl,hp,hc9,hi⟩:=k_8
  by_cases hlt:i<32
  · exact(dh2f hlt).x fun _ ⟨k11_,k_8,e_⟩=> .inl ⟨rfl,32 - (i+1),by omega,⟨_,_,_,_,k_8,rfl,e_⟩⟩
  · exact(rn_seqx (w:= [1,1,1,1,1,1,1,0,1,0,0]) (by kernel_rfl) (dh2b hlt) (by simp)).x fun _ ⟨k_10,e_⟩=> .inr ⟨rfl,⟨i,p,c9,Y,k_10,e_⟩⟩
theorem dh2h:dh2A_R [1,1,1,1,1,1,1,0] (dh2H k_7) .normal (fun z_=>∃(i1 p1 c91:Nat) (Y1:List Int) (k_10:dh2K_c k_6 i1 p1 c91 Y1),z_=dh2K k_10):=by
  refine rn_seq (w:= [1,1,1,1,1,1,1,0]) (by kernel_rfl) dh29 ?_
  rintro _ ⟨k_8,rfl⟩
  exact dh2g
structure dh2M_c (_:dh2K_c k_6 i p c9 Y) (Z:List Int):Prop where
  hZ:Z=hmac2 N1 N2
variable {Z:List Int} {k_12:dh2M_c k_10 Z}
abbrev dh2M (_:dh2M_c k_10 Z):FS:=⟨false,41,[(4,.pointer (some ⟨4,0,none⟩))],[((wA .u32 64 kL2),g0),((wA .u64 80 kL5),g1),(a1,t1),(a2,t2),((wA .u8 32 Z),(25,(0,0))),((wA .u8 k X),tk),((wA .u8 c6 ((padL X 54 64) ++ N2)),(5,(0,0))),((wA .u8 32 Q),(25,(0,0))),((wA .u8 c9 Y),(5,(0,0)))]⟩
theorem dh2i:dh2A_R [1,1,1,1,1,1,1,1] (dh2K k_10) .ret (fun z_=>∃(k_12:dh2M_c k_10 (sh2 (bL (wA .u8 c9 Y) 0 p))),z_=dh2M k_12):=by
  have⟨hk,hN1,ht,hN2,hl⟩:=id k_1
  have⟨hX,hXb,hn,hkk,hnl⟩:=id k_3
  have⟨hm,hc6,hTl⟩:=id k_5
  have⟨hQ⟩:=id k_6
  have⟨hY,hYl,hp,hc9,hi⟩:=id k_10
  exact rn_ev (yty.enm (pDS2 :: pDS5 :: tabM3) [mMask] 2000004) dh2A_h mixed _ none [] [(2,(SrcOk .u8 [((wA .u32 64 kL2),g0),((wA .u64 80 kL5),g1),(a1,t1),(a2,t2),((wA .u8 32 []),(25,(0,0))),((wA .u8 k X),tk),((wA .u8 c6 ((padL X 54 64) ++ N2)),(5,(0,0))),((wA .u8 32 Q),(25,(0,0))),((wA .u8 c9 Y),(5,(0,0)))] (.slice (some ⟨8,0,none⟩) p c9) (bL (wA .u8 c9 Y) 0 p)∧(∃ x,[((wA .u32 64 kL2),g0),((wA .u64 80 kL5),g1),(a1,t1),(a2,t2),((wA .u8 32 []),(25,(0,0))),((wA .u8 k X),tk),((wA .u8 c6 ((padL X 54 64) ++ N2)),(5,(0,0))),((wA .u8 32 Q),(25,(0,0))),((wA .u8 c9 Y),(5,(0,0)))][0]? =some x)∧(bL (wA .u8 c9 Y) 0 p).length=p∧p≤1000000000)),(0,((wA .u8 32 (sh2 (bL (wA .u8 c9 Y) 0 p))).all (fun v=>v.oneCell')=true))] 0 (fun j M=>by kernel_rfl) (A1 ⟨src_k rfl (by omega) hc9,⟨_,rfl⟩,bL_len _ _ _,by omega⟩ (A1 (wA_one _ _ _) A0)) ⟨⟨by rw[bLk hYl hc9,hY,hi,List.take_of_length_le (by rw[hQ,sh2_len];decide),hQ,hX,← hmac2_pad]⟩,rfl⟩
theorem dh2u':dh2A_R [] (dh2A k_1) .ret (fun z_=>∃(n11 k11:Nat) (tk2:Tq) (n32 k32:Nat) (X2:List Int) (k13 n14 k14 k16 i17 p17 c917:Nat) (Y17:List Int) (k_3:dh2D_c k_1 tk2 n32 k32 X2) (k_5:dh2F_c k_3 n14 k14) (k_6:dh2G_c k_5 (sh2 (bL (wA .u8 k14 ((padL X2 54 64) ++ N2)) 0 n14))) (k_10:dh2K_c k_6 i17 p17 c917 Y17) (k_12:dh2M_c k_10 (sh2 (bL (wA .u8 c917 Y17) 0 p17))),z_=dh2M k_12):=by
  refine rn_seq (w:= []) (by kernel_rfl) dh20 ?_
  rintro _ rfl
  refine rn_seq (w:= [1]) (by kernel_rfl) dh21 ?_
  rintro _ ⟨n11,k11,k_2,rfl⟩
  refine rn_seq (w:= [1,1]) (by kernel_rfl) dh24 ?_
  rintro _ ⟨tk2,n32,k32,X2,k_3,rfl⟩
  refine rn_seq (w:= [1,1,1]) (by kernel_rfl) dh25 ?_
  rintro _ ⟨k13,k_4,rfl⟩
  refine rn_seq (w:= [1,1,1,1]) (by kernel_rfl) dh26 ?_
  rintro _ ⟨n14,k14,k_5,rfl⟩
  refine rn_seq (w:= [1,1,1,1,1]) (by kernel_rfl) dh27 ?_
  rintro _ ⟨k_6,rfl⟩
  refine rn_seq (w:= [1,1,1,1,1,1]) (by kernel_rfl) dh28 ?_
  rintro _ ⟨k16,k_7,rfl⟩
  refine rn_seq (w:= [1,1,1,1,1,1,1]) (by kernel_rfl) dh2h ?_
  rintro _ ⟨i17,p17,c917,Y17,k_10,rfl⟩
  exact(dh2i).mono fun _ ⟨k_12,e_⟩=>⟨n11,k11,tk2,n32,k32,X2,k13,n14,k14,k16,i17,p17,c917,Y17,k_3,k_5,k_6,k_10,k_12,e_⟩
abbrev dh2A_s (g0 g1 t1 t2:Tq) (a1 a2:Array Value) (b1 b2:Option Addr) (l1 c1 l2 c2:Nat) (N1 N2:List Int) (j:Nat→Value):List Value:=([.slice b1 l1 c1,.slice b2 l2 c2] ++ (JU 39))
abbrev dh2A_m (g0 g1 t1 t2:Tq) (a1 a2:Array Value) (b1 b2:Option Addr) (l1 c1 l2 c2:Nat) (N1 N2:List Int):List Mb:= [((wA .u32 64 kL2),g0),((wA .u64 80 kL5),g1),(a1,t1),(a2,t2)]
abbrev dh2M_s (g0 g1 t1 t2:Tq) (a1 a2:Array Value) (b1 b2:Option Addr) (l1 c1 l2 c2:Nat) (N1 N2:List Int) (tk:Tq) (n k:Nat) (X:List Int) (m c6:Nat) (Q:List Int) (i p c9:Nat) (Y:List Int) (Z:List Int) (j:Nat→Value):List Value:=(J j 0 4 ++ ([.pointer (some ⟨4,0,none⟩)] ++ (J j 5 36)))
abbrev dh2M_m (g0 g1 t1 t2:Tq) (a1 a2:Array Value) (b1 b2:Option Addr) (l1 c1 l2 c2:Nat) (N1 N2:List Int) (tk:Tq) (n k:Nat) (X:List Int) (m c6:Nat) (Q:List Int) (i p c9:Nat) (Y:List Int) (Z:List Int):List Mb:= [((wA .u32 64 kL2),g0),((wA .u64 80 kL5),g1),(a1,t1),(a2,t2),((wA .u8 32 Z),(25,(0,0))),((wA .u8 k X),tk),((wA .u8 c6 ((padL X 54 64) ++ N2)),(5,(0,0))),((wA .u8 32 Q),(25,(0,0))),((wA .u8 c9 Y),(5,(0,0)))]
theorem dh2u (g0 g1 t1 t2:Tq) (a1 a2:Array Value) (b1 b2:Option Addr) (l1 c1 l2 c2:Nat) (N1 N2:List Int) (j:Nat→Value) (hk:BytesOk [(wA .u32 64 kL2,g0),(wA .u64 80 kL5,g1),(a1,t1),(a2,t2)] b1 l1 c1) (hN1:bytesOf [(wA .u32 64 kL2,g0),(wA .u64 80 kL5,g1),(a1,t1),(a2,t2)] b1 l1=N1) (ht:BytesOk [(wA .u32 64 kL2,g0),(wA .u64 80 kL5,g1),(a1,t1),(a2,t2)] b2 l2 c2) (hN2:bytesOf [(wA .u32 64 kL2,g0),(wA .u64 80 kL5,g1),(a1,t1),(a2,t2)] b2 l2=N2) (hl:l1≤100000000∧l2≤100000000)  :Runs Tryd.prog (cAt [] (bdy Tryd.f19)) ⟨dh2A_s g0 g1 t1 t2 a1 a2 b1 b2 l1 c1 l2 c2 N1 N2 j,dh2A_m g0 g1 t1 t2 a1 a2 b1 b2 l1 c1 l2 c2 N1 N2,c0,ch0⟩ (fun e s=>e= .ret∧∃(n11:Nat) (k11:Nat) (tk2:Tq) (n32:Nat) (k32:Nat) (X2:List Int) (k13:Nat) (n14:Nat) (k14:Nat) (k16:Nat) (i17:Nat) (p17:Nat) (c917:Nat) (Y17:List Int),∃j c ch,(X2=key2 N1)∧(∀ x ∈ X2,0≤x∧x<256)∧(n32=X2.length)∧(n32≤k32)∧(n32≤64)∧(n14=64+l2)∧(n14≤k14)∧(N2.length=l2)∧((sh2 (bL (wA .u8 k14 ((padL X2 54 64) ++ N2)) 0 n14))=sh2 ((padL X2 54 64) ++ N2))∧(Y17=(padL X2 92 64) ++ (sh2 (bL (wA .u8 k14 ((padL X2 54 64) ++ N2)) 0 n14)).take i17)∧(Y17.length=p17)∧(p17=64+i17)∧(p17≤c917)∧(i17=32)∧((sh2 (bL (wA .u8 c917 Y17) 0 p17))=hmac2 N1 N2)∧s=⟨dh2M_s g0 g1 t1 t2 a1 a2 b1 b2 l1 c1 l2 c2 N1 N2 tk2 n32 k32 X2 n14 k14 (sh2 (bL (wA .u8 k14 ((padL X2 54 64) ++ N2)) 0 n14)) i17 p17 c917 Y17 (sh2 (bL (wA .u8 c917 Y17) 0 p17)) j,dh2M_m g0 g1 t1 t2 a1 a2 b1 b2 l1 c1 l2 c2 N1 N2 tk2 n32 k32 X2 n14 k14 (sh2 (bL (wA .u8 k14 ((padL X2 54 64) ++ N2)) 0 n14)) i17 p17 c917 Y17 (sh2 (bL (wA .u8 c917 Y17) 0 p17)),c,ch⟩) 2000004:=by
  refine(Rn.old (dh2u' (k_1:=(⟨hk,hN1,ht,hN2,hl⟩:dh2A_c g0 g1 t1 t2 a1 a2 b1 b2 l1 c1 l2 c2 N1 N2))) j (by kernel_rfl)).mono ?_
  rintro e s ⟨rfl,_,⟨n11,k11,tk2,n32,k32,X2,k13,n14,k14,k16,i17,p17,c917,Y17,k_3,k_5,k_6,k_10,k_12,rfl⟩,j,c,ch,rfl⟩
  have⟨x_hX,x_hXb,x_hn,x_hkk,x_hnl⟩:=k_3
  have⟨x_hm,x_hc6,x_hTl⟩:=k_5
  have⟨x_hQ⟩:=k_6
  have⟨x_hY,x_hYl,x_hp,x_hc9,x_hi⟩:=k_10
  have⟨x_hZ⟩:=k_12
  exact⟨rfl,n11,k11,tk2,n32,k32,X2,k13,n14,k14,k16,i17,p17,c917,Y17,j,c,ch,x_hX,x_hXb,x_hn,x_hkk,x_hnl,x_hm,x_hc6,x_hTl,x_hQ,x_hY,x_hYl,x_hp,x_hc9,x_hi,x_hZ,by kernel_rfl⟩
def dh5A_h (i:Nat):Hn:=⟨0,[],[],[],[]⟩
abbrev dh5A_R (w:List Nat) (S:FS) (e:Exit) (K:FS→Prop):Prop:=Rn Tryd.prog (cAt w (bdy Tryd.f20)) S e K 2000004
structure dh5A_c (g0 g1 t1 t2:Tq) (a1 a2:Array Value) (b1 b2:Option Addr) (l1 c1 l2 c2:Nat) (N1 N2:List Int):Prop where
  hk:BytesOk [(wA .u32 64 kL2,g0),(wA .u64 80 kL5,g1),(a1,t1),(a2,t2)] b1 l1 c1
  hN1:bytesOf [(wA .u32 64 kL2,g0),(wA .u64 80 kL5,g1),(a1,t1),(a2,t2)] b1 l1=N1
  ht:BytesOk [(wA .u32 64 kL2,g0),(wA .u64 80 kL5,g1),(a1,t1),(a2,t2)] b2 l2 c2
  hN2:bytesOf [(wA .u32 64 kL2,g0),(wA .u64 80 kL5,g1),(a1,t1),(a2,t2)] b2 l2=N2
  hl:l1≤100000000∧l2≤100000000
variable {k_13:dh5A_c g0 g1 t1 t2 a1 a2 b1 b2 l1 c1 l2 c2 N1 N2}
abbrev dh5A (_:dh5A_c g0 g1 t1 t2 a1 a2 b1 b2 l1 c1 l2 c2 N1 N2):FS:=⟨true,41,[(0,.slice b1 l1 c1),(1,.slice b2 l2 c2)],[((wA .u32 64 kL2),g0),((wA .u64 80 kL5),g1),(a1,t1),(a2,t2)]⟩
abbrev dh5B (_:dh5A_c g0 g1 t1 t2 a1 a2 b1 b2 l1 c1 l2 c2 N1 N2):FS:=⟨false,41,[(0,.slice b1 l1 c1),(1,.slice b2 l2 c2),(4,.pointer (some ⟨4,0,none⟩))],[((wA .u32 64 kL2),g0),((wA .u64 80 kL5),g1),(a1,t1),(a2,t2),((wA .u8 64 []),(29,(0,0)))]⟩
theorem dh50:dh5A_R [0] (dh5A k_13) .normal (fun z_=>z_=dh5B k_13):=rn_ev (yty.enm (pDS2 :: pDS5 :: tabM3) [mMask] 2000004) dh5A_h mixed _ none [] [] 0 (fun j M=>by kernel_rfl) A0 rfl
structure dh5C_c (_:dh5A_c g0 g1 t1 t2 a1 a2 b1 b2 l1 c1 l2 c2 N1 N2) (n k:Nat):Prop where
  hn:n=l1
  hkk:n≤k
  hNl:N1.length=l1
variable {k_14:dh5C_c k_13 n k}
abbrev dh5C (_:dh5C_c k_13 n k):FS:=⟨false,41,[(1,.slice b2 l2 c2),(4,.pointer (some ⟨4,0,none⟩)),(5,.slice (some ⟨5,0,none⟩) n k)],[((wA .u32 64 kL2),g0),((wA .u64 80 kL5),g1),(a1,t1),(a2,t2),((wA .u8 64 []),(29,(0,0))),((wA .u8 k N1),(5,(0,0)))]⟩
theorem dh51:dh5A_R [1,0] (dh5B k_13) .normal (fun z_=>∃(n1 k1:Nat) (k_14:dh5C_c k_13 n1 k1),z_=dh5C k_14):=by
  have⟨hk,hN1,ht,hN2,hl⟩:=id k_13
  have hNl:N1.length=l1:=by rw[← hN1];exact hk.len
  have hTl:N2.length=l2:=by rw[← hN2];exact ht.len
  have hx1:∀ i M,4≤i→al i M (.slice b1 l1 c1)= .slice b1 l1 c1:=fun i M h=>al_b hk h
  have hx2:∀ i M,4≤i→al i M (.slice b2 l2 c2)= .slice b2 l2 c2:=fun i M h=>al_b ht h
  refine rn_reg none (by kernel_rfl) fun j c0 ch0=> ?_
  refine rl_app (yty.enm (pDS2 :: pDS5 :: tabM3) [mMask] 2000004) apB apB.ht 2 [] [] 1 [((wA .u32 64 kL2),g0),((wA .u64 80 kL5),g1),(a1,t1),(a2,t2),((wA .u8 64 []),(29,(0,0))),((wA .u8 0 []),(5,(0,0)))] 5 0 0 ([]:List Int) N1 (.slice b1 l1 c1) (some 13) (by kernel_rfl) A0 rfl (Nat.zero_le _) (SrcOk.app (x:= [_,_]) (hN1 ▸ hk.src)) (by simp;omega) fun n1 k1 M1 c1_ e1_ hn1 hk1=> ?_
  try simp only[zL] at hn1
  exact rl_end (E:=(yty.enm (pDS2 :: pDS5 :: tabM3) [mMask] 2000004)) (⟨false,41,[(1,al 5 M1 (.slice b2 l2 c2)),(4,.pointer (some ⟨4,0,none⟩)),(5,.slice (some ⟨5,0,none⟩) n1 k1)],[((wA .u32 64 kL2),g0),((wA .u64 80 kL5),g1),(a1,t1),(a2,t2),((wA .u8 64 []),(29,(0,0))),((wA .u8 k1 (([]:List Int) ++ N1)),(5,(0,0)))]⟩) [] [] 1 (fun M=>by kernel_rfl) A0 ⟨n1,k1,⟨by simp at hn1;omega,hk1,hNl⟩,(by
    delta dh5C
    simp only[hx1 _ _ (by decide:4≤5),hx2 _ _ (by decide:4≤5)]
    try kernel_rfl)⟩
structure dh5D_c (_:dh5A_c g0 g1 t1 t2 a1 a2 b1 b2 l1 c1 l2 c2 N1 N2) (tk:Tq) (n k:Nat) (X:List Int):Prop where
  hX:X=key5 N1
  hXb:∀ x ∈ X,0≤x∧x<256
  hn:n=X.length
  hkk:n≤k
  hnl:n≤128
variable {k_15:dh5D_c k_13 tk n k X}
abbrev dh5D (_:dh5D_c k_13 tk n k X):FS:=⟨false,41,[(1,.slice b2 l2 c2),(4,.pointer (some ⟨4,0,none⟩)),(5,.slice (some ⟨5,0,none⟩) n k)],[((wA .u32 64 kL2),g0),((wA .u64 80 kL5),g1),(a1,t1),(a2,t2),((wA .u8 64 []),(29,(0,0))),((wA .u8 k X),tk)]⟩
theorem dh52 (hc:¬ 128<l1):dh5A_R [1,1,0] (dh5C k_14) .normal (fun z_=>∃(k_15:dh5D_c k_13 (5,(0,0)) n k N1),z_=dh5D k_15):=by
  have⟨hk,hN1,ht,hN2,hl⟩:=id k_13
  have⟨hn,hkk,hNl⟩:=id k_14
  have hNb:∀ x ∈ N1,0≤x∧x<256:=by rw[← hN1];exact hk.bt
  exact rn_ev (yty.enm (pDS2 :: pDS5 :: tabM3) [mMask] 2000004) dh5A_h mixed _ none [some (.bool false)] [(5,(decide (128<(n:Int)))=false)] 0 (fun j M=>by kernel_rfl) (A1 (decide_eq_false (by omega)) A0) ⟨⟨by unfold key5;rw[if_pos (by omega)],hNb,by omega,hkk,by omega⟩,rfl⟩
theorem dh53 (hc : 128 < l1) : dh5A_R [1, 1, 0] (dh5C k_14) .normal (fun z_ => ∃ (k_15 : dh5D_c k_13 (29, (0, 0)) 64 64 (sh5 (bL (wA .u8 k N1) 0 n))), z_ = dh5D k_15) := by
  have⟨hk,hN1,ht,hN2,hl⟩:=id k_13
  have⟨hn,hkk,hNl⟩:=id k_14
  have hNb:∀ x ∈ N1,0≤x∧x<256:=by rw[← hN1];exact hk.bt
  exact rn_evM (yty.enm (pDS2 :: pDS5 :: tabM3) [mMask] 2000004) dh5A_h mixed (fun M => ⟨false, 41, [(1, ov 5 6 M (.slice b2 l2 c2)), (4, .pointer (some ⟨4, 0, none⟩)), (5, .slice (some ⟨5, 0, none⟩) 64 64)], [((wA .u32 64 kL2), g0), ((wA .u64 80 kL5), g1), (a1, t1), (a2, t2), ((wA .u8 64 []), (29, (0, 0))), ((wA .u8 64 (sh5 (bL (wA .u8 k N1) 0 n))), (29, (0, 0)))]⟩) (some (true, 5)) [some (.bool true)] [(5, (decide (128 < (n:Int))) = true), (2, (SrcOk .u8 [((wA .u32 64 kL2), g0), ((wA .u64 80 kL5), g1), (a1, t1), (a2, t2), ((wA .u8 64 []), (29, (0, 0))), ((wA .u8 k N1), (5, (0, 0)))] (.slice (some ⟨5, 0, none⟩) n k) (bL (wA .u8 k N1) 0 n) ∧ (∃ x, [((wA .u32 64 kL2), g0), ((wA .u64 80 kL5), g1), (a1, t1), (a2, t2), ((wA .u8 64 []), (29, (0, 0))), ((wA .u8 k N1), (5, (0, 0)))][0]? = some x) ∧ (bL (wA .u8 k N1) 0 n).length = n ∧ n ≤ 1000000000)), (0, ((wA .u8 64 (sh5 (bL (wA .u8 k N1) 0 n))).all (fun v => v.oneCell') = true))] 2 (fun j M => by kernel_rfl) (A1 (decide_eq_true (by omega)) (A1 ⟨src_k rfl (by omega) hkk, ⟨_, rfl⟩, bL_len _ _ _, by omega⟩ (A1 (wA_one _ _ _) A0))) fun M => ⟨⟨by rw [bLk (by omega) hkk]; unfold key5; rw [if_neg (by omega)], sh5_bt _, (sh5_len _).symm, Nat.le_refl _, by decide⟩, (by
    delta dh5D
    rcases ht with⟨rfl,rfl,rfl⟩|⟨i0,o0,src0,st0,rfl,hm0,_⟩
    · kernel_rfl
    · have hi0 : i0 < 4 := (List.getElem?_eq_some_iff.1 hm0).1
      have hi1:i0=0∨i0=1∨i0=2∨i0=3:=by omega
      rcases hi1 with rfl|rfl|rfl|rfl
      · show _ = _
        kernel_rfl
      · show _ = _
        kernel_rfl
      · show _ = _
        kernel_rfl
      · show _ = _
        kernel_rfl)⟩
theorem dh54:dh5A_R [1,1,0] (dh5C k_14) .normal (fun z_=>∃(tk:Tq) (n3 k3:Nat) (X:List Int) (k_15:dh5D_c k_13 tk n3 k3 X),z_=dh5D k_15):=by
  by_cases hc:128<l1
  · exact(dh53 hc).mono fun _ ⟨k_15,e_⟩=>⟨_,_,_,_,k_15,e_⟩
  · exact(dh52 hc).mono fun _ ⟨k_15,e_⟩=>⟨_,_,_,_,k_15,e_⟩
structure dh5E_c (_:dh5D_c k_13 tk n k X) (c6:Nat):Prop where
  hc6:128≤c6
variable {k_16:dh5E_c k_15 c6}
abbrev dh5E (_:dh5E_c k_15 c6):FS:=⟨false,41,[(1,.slice b2 l2 c2),(4,.pointer (some ⟨4,0,none⟩)),(5,.slice (some ⟨5,0,none⟩) n k),(7,.slice (some ⟨6,0,none⟩) 128 c6)],[((wA .u32 64 kL2),g0),((wA .u64 80 kL5),g1),(a1,t1),(a2,t2),((wA .u8 64 []),(29,(0,0))),((wA .u8 k X),tk),((wA .u8 c6 (padL X 54 128)),(5,(0,0)))]⟩
theorem dh55:dh5A_R [1,1,1,0] (dh5D k_15) .normal (fun z_=>∃(k1:Nat) (k_16:dh5E_c k_15 k1),z_=dh5E k_16):=by
  have⟨hk,hN1,ht,hN2,hl⟩:=id k_13
  have⟨hX,hXb,hn,hkk,hnl⟩:=id k_15
  refine rn_reg none (by kernel_rfl) fun j c0 ch0=> ?_
  have hM1:MakesA Tryd.prog 37 [((wA .u32 64 kL2),g0),((wA .u64 80 kL5),g1),(a1,t1),(a2,t2),((wA .u8 64 []),(29,(0,0))),((wA .u8 k X),tk)] [.slice (some ⟨5,0,none⟩) n k,.int .i64 128,.int .u8 54] .u8 128 (padL X 54 128) 5 2:=(by have hw:=With_c (wA .u8 k X) tk 0 n k 128 54 (bt_k hkk hXb) (by omega) (by decide);rw[bLk hn.symm hkk] at hw;exact with_lift hw rfl)
  refine rl_call (yty.enm (pDS2 :: pDS5 :: tabM3) [mMask] 2000004) (call_of Tryd.func37 (by kernel_rfl) (by kernel_rfl)) 1 [] [] 1 6 (some 21) hM1 (by kernel_rfl) A0 fun k1 c1_ e1_ hk1=> ?_
  exact rl_end (E:=(yty.enm (pDS2 :: pDS5 :: tabM3) [mMask] 2000004)) _ [] [] 1 (fun M=>by kernel_rfl) A0 ⟨k1,⟨by rw[padL_len] at hk1;exact hk1⟩,rfl⟩
structure dh5F_c (_:dh5D_c k_13 tk n k X) (m c6:Nat):Prop where
  hm:m=128+l2
  hc6:m≤c6
  hTl:N2.length=l2
variable {k_17:dh5F_c k_15 m c6}
abbrev dh5F (_:dh5F_c k_15 m c6):FS:=⟨false,41,[(4,.pointer (some ⟨4,0,none⟩)),(5,.slice (some ⟨5,0,none⟩) n k),(7,.slice (some ⟨6,0,none⟩) m c6)],[((wA .u32 64 kL2),g0),((wA .u64 80 kL5),g1),(a1,t1),(a2,t2),((wA .u8 64 []),(29,(0,0))),((wA .u8 k X),tk),((wA .u8 c6 ((padL X 54 128) ++ N2)),(5,(0,0)))]⟩
theorem dh56:dh5A_R [1,1,1,1,0] (dh5E k_16) .normal (fun z_=>∃(n1 k1:Nat) (k_17:dh5F_c k_15 n1 k1),z_=dh5F k_17):=by
  have⟨hk,hN1,ht,hN2,hl⟩:=id k_13
  have⟨hX,hXb,hn,hkk,hnl⟩:=id k_15
  have⟨hc6⟩:=id k_16
  have hNl:N1.length=l1:=by rw[← hN1];exact hk.len
  have hTl:N2.length=l2:=by rw[← hN2];exact ht.len
  have hx1:∀ i M,4≤i→al i M (.slice b1 l1 c1)= .slice b1 l1 c1:=fun i M h=>al_b hk h
  have hx2:∀ i M,4≤i→al i M (.slice b2 l2 c2)= .slice b2 l2 c2:=fun i M h=>al_b ht h
  refine rn_reg none (by kernel_rfl) fun j c0 ch0=> ?_
  refine rl_app (yty.enm (pDS2 :: pDS5 :: tabM3) [mMask] 2000004) apB apB.ht 2 [] [] 2 [((wA .u32 64 kL2),g0),((wA .u64 80 kL5),g1),(a1,t1),(a2,t2),((wA .u8 64 []),(29,(0,0))),((wA .u8 k X),tk),((wA .u8 c6 (padL X 54 128)),(5,(0,0)))] 6 128 c6 (padL X 54 128) N2 (.slice b2 l2 c2) (some 24) (by kernel_rfl) A0 (by rw[padL_len]) (by rw[padL_len];exact hc6) (SrcOk.app (x:= [_,_,_]) (hN2 ▸ ht.src)) (by rw[padL_len];omega) fun n1 k1 M1 c1_ e1_ hn1 hk1=> ?_
  try simp only[zL] at hn1
  exact rl_end (E:=(yty.enm (pDS2 :: pDS5 :: tabM3) [mMask] 2000004)) (⟨false,41,[(4,.pointer (some ⟨4,0,none⟩)),(5,.slice (some ⟨5,0,none⟩) n k),(7,.slice (some ⟨6,0,none⟩) n1 k1)],[((wA .u32 64 kL2),g0),((wA .u64 80 kL5),g1),(a1,t1),(a2,t2),((wA .u8 64 []),(29,(0,0))),((wA .u8 k X),tk),((wA .u8 k1 ((padL X 54 128) ++ N2)),(5,(0,0)))]⟩) [] [] 1 (fun M=>by kernel_rfl) A0 ⟨n1,k1,⟨by rw[padL_len] at hn1;omega,hk1,hTl⟩,(by
    delta dh5F
    simp only[hx2 _ _ (by decide:4≤6)]
    try kernel_rfl)⟩
structure dh5G_c (_:dh5F_c k_15 m c6) (Q:List Int):Prop where
  hQ:Q=sh5 ((padL X 54 128) ++ N2)
variable {k_18:dh5G_c k_17 Q}
abbrev dh5G (_:dh5G_c k_17 Q):FS:=⟨false,41,[(4,.pointer (some ⟨4,0,none⟩)),(5,.slice (some ⟨5,0,none⟩) n k),(8,.pointer (some ⟨7,0,none⟩))],[((wA .u32 64 kL2),g0),((wA .u64 80 kL5),g1),(a1,t1),(a2,t2),((wA .u8 64 []),(29,(0,0))),((wA .u8 k X),tk),((wA .u8 c6 ((padL X 54 128) ++ N2)),(5,(0,0))),((wA .u8 64 Q),(29,(0,0)))]⟩
theorem dh57:dh5A_R [1,1,1,1,1,0] (dh5F k_17) .normal (fun z_=>∃(k_18:dh5G_c k_17 (sh5 (bL (wA .u8 c6 ((padL X 54 128) ++ N2)) 0 m))),z_=dh5G k_18):=by
  have⟨hk,hN1,ht,hN2,hl⟩:=id k_13
  have⟨hX,hXb,hn,hkk,hnl⟩:=id k_15
  have⟨hm,hc6,hTl⟩:=id k_17
  exact rn_ev (yty.enm (pDS2 :: pDS5 :: tabM3) [mMask] 2000004) dh5A_h mixed _ none [] [(2,(SrcOk .u8 [((wA .u32 64 kL2),g0),((wA .u64 80 kL5),g1),(a1,t1),(a2,t2),((wA .u8 64 []),(29,(0,0))),((wA .u8 k X),tk),((wA .u8 c6 ((padL X 54 128) ++ N2)),(5,(0,0)))] (.slice (some ⟨6,0,none⟩) m c6) (bL (wA .u8 c6 ((padL X 54 128) ++ N2)) 0 m)∧(∃ x,[((wA .u32 64 kL2),g0),((wA .u64 80 kL5),g1),(a1,t1),(a2,t2),((wA .u8 64 []),(29,(0,0))),((wA .u8 k X),tk),((wA .u8 c6 ((padL X 54 128) ++ N2)),(5,(0,0)))][0]? =some x)∧(bL (wA .u8 c6 ((padL X 54 128) ++ N2)) 0 m).length=m∧m≤1000000000)),(0,((wA .u8 64 (sh5 (bL (wA .u8 c6 ((padL X 54 128) ++ N2)) 0 m))).all (fun v=>v.oneCell')=true))] 0 (fun j M=>by kernel_rfl) (A1 ⟨src_k rfl (by rw[List.length_append,padL_len];omega) hc6,⟨_,rfl⟩,bL_len _ _ _,by omega⟩ (A1 (wA_one _ _ _) A0)) ⟨⟨by rw[bLk (by rw[List.length_append,padL_len];omega) hc6]⟩,rfl⟩
structure dh5H_c (_:dh5G_c k_17 Q) (i p c9:Nat) (Y:List Int):Prop where
  hY:Y=(padL X 92 128) ++ Q.take i
  hYl:Y.length=p
  hp:p=128+i
  hc9:p≤c9
  hi:i=0
variable {k_19:dh5H_c k_18 i p c9 Y}
abbrev dh5H (_:dh5H_c k_18 i p c9 Y):FS:=⟨false,41,[(4,.pointer (some ⟨4,0,none⟩)),(8,.pointer (some ⟨7,0,none⟩)),(9,.slice (some ⟨8,0,none⟩) p c9)],[((wA .u32 64 kL2),g0),((wA .u64 80 kL5),g1),(a1,t1),(a2,t2),((wA .u8 64 []),(29,(0,0))),((wA .u8 k X),tk),((wA .u8 c6 ((padL X 54 128) ++ N2)),(5,(0,0))),((wA .u8 64 Q),(29,(0,0))),((wA .u8 c9 Y),(5,(0,0)))]⟩
theorem dh58:dh5A_R [1,1,1,1,1,1,0] (dh5G k_18) .normal (fun z_=>∃(k1:Nat) (k_19:dh5H_c k_18 0 128 k1 (padL X 92 128)),z_=dh5H k_19):=by
  have⟨hk,hN1,ht,hN2,hl⟩:=id k_13
  have⟨hX,hXb,hn,hkk,hnl⟩:=id k_15
  have⟨hm,hc6,hTl⟩:=id k_17
  have⟨hQ⟩:=id k_18
  refine rn_reg none (by kernel_rfl) fun j c0 ch0=> ?_
  have hM1:MakesA Tryd.prog 37 [((wA .u32 64 kL2),g0),((wA .u64 80 kL5),g1),(a1,t1),(a2,t2),((wA .u8 64 []),(29,(0,0))),((wA .u8 k X),tk),((wA .u8 c6 ((padL X 54 128) ++ N2)),(5,(0,0))),((wA .u8 64 Q),(29,(0,0)))] [.slice (some ⟨5,0,none⟩) n k,.int .i64 128,.int .u8 92] .u8 128 (padL X 92 128) 5 2:=(by have hw:=With_c (wA .u8 k X) tk 0 n k 128 92 (bt_k hkk hXb) (by omega) (by decide);rw[bLk hn.symm hkk] at hw;exact with_lift hw rfl)
  refine rl_call (yty.enm (pDS2 :: pDS5 :: tabM3) [mMask] 2000004) (call_of Tryd.func37 (by kernel_rfl) (by kernel_rfl)) 1 [] [] 1 8 (some 28) hM1 (by kernel_rfl) A0 fun k1 c1_ e1_ hk1=> ?_
  exact rl_end (E:=(yty.enm (pDS2 :: pDS5 :: tabM3) [mMask] 2000004)) _ [] [] 1 (fun M=>by kernel_rfl) A0 ⟨k1,⟨by simp,padL_len _ _ _,rfl,by rw[padL_len] at hk1;exact hk1,rfl⟩,rfl⟩
structure dh5I_c (_:dh5G_c k_17 Q) (i p c9:Nat) (Y:List Int):Prop where
  hY:Y=(padL X 92 128) ++ Q.take i
  hYl:Y.length=p
  hp:p=128+i
  hc9:p≤c9
  hi:i≤64
variable {k_20:dh5I_c k_18 i p c9 Y}
abbrev dh5I (_:dh5I_c k_18 i p c9 Y):FS:=⟨false,41,[(4,.pointer (some ⟨4,0,none⟩)),(8,.pointer (some ⟨7,0,none⟩)),(9,.slice (some ⟨8,0,none⟩) p c9),(10,.int .i64 (i:Int))],[((wA .u32 64 kL2),g0),((wA .u64 80 kL5),g1),(a1,t1),(a2,t2),((wA .u8 64 []),(29,(0,0))),((wA .u8 k X),tk),((wA .u8 c6 ((padL X 54 128) ++ N2)),(5,(0,0))),((wA .u8 64 Q),(29,(0,0))),((wA .u8 c9 Y),(5,(0,0)))]⟩
theorem dh59:dh5A_R [1,1,1,1,1,1,1,0,0] (dh5H k_19) .normal (fun z_=>∃(k_20:dh5I_c k_18 0 p c9 Y),z_=dh5I k_20):=by
  have⟨hk,hN1,ht,hN2,hl⟩:=id k_13
  have⟨hX,hXb,hn,hkk,hnl⟩:=id k_15
  have⟨hm,hc6,hTl⟩:=id k_17
  have⟨hQ⟩:=id k_18
  have⟨hY,hYl,hp,hc9,hi⟩:=id k_19
  exact rn_ev (yty.enm (pDS2 :: pDS5 :: tabM3) [mMask] 2000004) dh5A_h mixed _ none [] [] 1 (fun j M=>by kernel_rfl) A0 ⟨⟨by rw[hY,hi],hYl,by omega,hc9,by omega⟩,rfl⟩
structure dh5J_c (_:dh5G_c k_17 Q) (i p c9:Nat) (Y:List Int):Prop where
  hY:Y=(padL X 92 128) ++ Q.take i
  hYl:Y.length=p
  hp:p=128+i
  hc9:p≤c9
  hi:i<64
variable {k_21:dh5J_c k_18 i p c9 Y}
abbrev dh5J (_:dh5J_c k_18 i p c9 Y):FS:=⟨false,41,[(4,.pointer (some ⟨4,0,none⟩)),(8,.pointer (some ⟨7,0,none⟩)),(9,.slice (some ⟨8,0,none⟩) p c9),(10,.int .i64 (i:Int))],[((wA .u32 64 kL2),g0),((wA .u64 80 kL5),g1),(a1,t1),(a2,t2),((wA .u8 64 []),(29,(0,0))),((wA .u8 k X),tk),((wA .u8 c6 ((padL X 54 128) ++ N2)),(5,(0,0))),((wA .u8 64 Q),(29,(0,0))),((wA .u8 c9 Y),(5,(0,0)))]⟩
theorem dh5a (hlt:i<64):dh5A_R [1,1,1,1,1,1,1,0,1,0,0,0] (dh5I k_20) .normal (fun z_=>∃(k_21:dh5J_c k_18 i p c9 Y),z_=dh5J k_21):=by
  have⟨hk,hN1,ht,hN2,hl⟩:=id k_13
  have⟨hX,hXb,hn,hkk,hnl⟩:=id k_15
  have⟨hm,hc6,hTl⟩:=id k_17
  have⟨hQ⟩:=id k_18
  have⟨hY,hYl,hp,hc9,hi⟩:=id k_20
  exact rn_ev (yty.enm (pDS2 :: pDS5 :: tabM3) [mMask] 2000004) dh5A_h mixed _ none [some (.bool true)] [(3,(decide ((i:Int)<64))=true)] 0 (fun j M=>by kernel_rfl) (A1 (decide_eq_true (by omega)) A0) ⟨⟨hY,hYl,hp,hc9,hlt⟩,rfl⟩
structure dh5K_c (_:dh5G_c k_17 Q) (i p c9:Nat) (Y:List Int):Prop where
  hY:Y=(padL X 92 128) ++ Q.take i
  hYl:Y.length=p
  hp:p=128+i
  hc9:p≤c9
  hi:i=64
variable {k_22:dh5K_c k_18 i p c9 Y}
abbrev dh5K (_:dh5K_c k_18 i p c9 Y):FS:=⟨false,41,[(4,.pointer (some ⟨4,0,none⟩)),(8,.pointer (some ⟨7,0,none⟩)),(9,.slice (some ⟨8,0,none⟩) p c9)],[((wA .u32 64 kL2),g0),((wA .u64 80 kL5),g1),(a1,t1),(a2,t2),((wA .u8 64 []),(29,(0,0))),((wA .u8 k X),tk),((wA .u8 c6 ((padL X 54 128) ++ N2)),(5,(0,0))),((wA .u8 64 Q),(29,(0,0))),((wA .u8 c9 Y),(5,(0,0)))]⟩
theorem dh5b (hge:¬ i<64):dh5A_R [1,1,1,1,1,1,1,0,1,0,0,0] (dh5I k_20) (.exit 0) (fun z_=>∃(k_22:dh5K_c k_18 i p c9 Y),z_=dh5K k_22):=by
  have⟨hk,hN1,ht,hN2,hl⟩:=id k_13
  have⟨hX,hXb,hn,hkk,hnl⟩:=id k_15
  have⟨hm,hc6,hTl⟩:=id k_17
  have⟨hQ⟩:=id k_18
  have⟨hY,hYl,hp,hc9,hi⟩:=id k_20
  exact rn_ev (yty.enm (pDS2 :: pDS5 :: tabM3) [mMask] 2000004) dh5A_h mixed _ none [some (.bool false)] [(3,(decide ((i:Int)<64))=false)] 0 (fun j M=>by kernel_rfl) (A1 (decide_eq_false (by omega)) A0) ⟨⟨hY,hYl,hp,hc9,by omega⟩,rfl⟩
structure dh5L_c (_:dh5G_c k_17 Q) (i p c9:Nat) (Y:List Int):Prop where
  hY:Y=(padL X 92 128) ++ Q.take (i+1)
  hYl:Y.length=p
  hp:p=128+(i+1)
  hc9:p≤c9
  hi:i<64
variable {k_23:dh5L_c k_18 i p c9 Y}
abbrev dh5L (_:dh5L_c k_18 i p c9 Y):FS:=⟨false,41,[(4,.pointer (some ⟨4,0,none⟩)),(8,.pointer (some ⟨7,0,none⟩)),(9,.slice (some ⟨8,0,none⟩) p c9),(10,.int .i64 (i:Int))],[((wA .u32 64 kL2),g0),((wA .u64 80 kL5),g1),(a1,t1),(a2,t2),((wA .u8 64 []),(29,(0,0))),((wA .u8 k X),tk),((wA .u8 c6 ((padL X 54 128) ++ N2)),(5,(0,0))),((wA .u8 64 Q),(29,(0,0))),((wA .u8 c9 Y),(5,(0,0)))]⟩
theorem dh5c:dh5A_R [1,1,1,1,1,1,1,0,1,0,0,1,0,0] (dh5J k_21) .normal (fun z_=>∃(k1:Nat) (k_23:dh5L_c k_18 i (p+1) k1 (Y ++ [(Q.getD i 0)])),z_=dh5L k_23):=by
  have⟨hk,hN1,ht,hN2,hl⟩:=id k_13
  have⟨hX,hXb,hn,hkk,hnl⟩:=id k_15
  have⟨hm,hc6,hTl⟩:=id k_17
  have⟨hQ⟩:=id k_18
  have⟨hY,hYl,hp,hc9,hi⟩:=id k_21
  refine rn_reg (some (false,9)) (by kernel_rfl) fun j c0 ch0=> ?_
  refine rl_app (yty.enm (pDS2 :: pDS5 :: tabM3) [mMask] 2000004) apB apB.ht 5 [some (.int .u8 (Q.getD i 0))] [(4,(0≤(i:Int)∧(i:Int)<((64:Nat):Int))),(0,(((wA .u8 64 Q)[(0+Int.toNat (i:Int)*1)]? =some (.int .u8 (Q.getD i 0)))∧(Q.getD i 0)=(Q.getD i 0)))] 0 [((wA .u32 64 kL2),g0),((wA .u64 80 kL5),g1),(a1,t1),(a2,t2),((wA .u8 64 []),(29,(0,0))),((wA .u8 k X),tk),((wA .u8 c6 ((padL X 54 128) ++ N2)),(5,(0,0))),((wA .u8 64 Q),(29,(0,0))),((wA .u8 c9 Y),(5,(0,0))),((wA .u8 1 [(Q.getD i 0)]),(5,(0,0)))] 8 p c9 Y ([(Q.getD i 0)]) (.slice (some ⟨9,0,none⟩) 1 1) (some 38) (by kernel_rfl) (A1 (by(try simp only[Int.toNat_natCast,wA_size]);omega) (A1 ⟨(wA_get (by omega) (by omega)),rfl⟩ A0)) (by omega) (by omega) (src_wA (i:=9) rfl rfl (Nat.le_refl 1)) (by simp only[List.length_cons,List.length_nil];omega) fun n1 k1 M1 c1_ e1_ hn1 hk1=> ?_
  try simp only[zL] at hn1
  obtain rfl:n1=p+1:=by simp at hn1;omega
  exact rl_end (E:=(yty.enm (pDS2 :: pDS5 :: tabM3) [mMask] 2000004)) _ [] [] 1 (fun M=>by kernel_rfl) A0 ⟨k1,⟨by rw[hY,List.append_assoc,tk_step (by rw[hQ,sh5_len];exact hi)],by simp;omega,by omega,by simp at hn1;omega,hi⟩,rfl⟩
theorem dh5d:dh5A_R [1,1,1,1,1,1,1,0,1,0,0,1,0] (dh5J k_21) .normal (fun z_=>∃(k1:Nat) (k_23:dh5L_c k_18 i (p+1) k1 (Y ++ [(Q.getD i 0)])),z_=dh5L k_23):=rn_block (k:=1) (w:= [1,1,1,1,1,1,1,0,1,0,0,1,0]) (by kernel_rfl) dh5c
theorem dh5e:dh5A_R [1,1,1,1,1,1,1,0,1,0,0,1,1] (dh5L k_23) .normal (fun z_=>∃(k_20:dh5I_c k_18 (i+1) p c9 Y),z_=dh5I k_20):=by
  have⟨hk,hN1,ht,hN2,hl⟩:=id k_13
  have⟨hX,hXb,hn,hkk,hnl⟩:=id k_15
  have⟨hm,hc6,hTl⟩:=id k_17
  have⟨hQ⟩:=id k_18
  have⟨hY,hYl,hp,hc9,hi⟩:=id k_23
  exact rn_ev (yty.enm (pDS2 :: pDS5 :: tabM3) [mMask] 2000004) dh5A_h mixed _ none [some (.int .i64 ((i+1:Nat):Int))] [(3,(IntKind.i64.wrap ((i:Int)+1))=((i+1:Nat):Int))] 1 (fun j M=>by kernel_rfl) (A1 (wi64 (by omega)) A0) ⟨⟨by omega,hYl,by omega,hc9,by omega⟩,rfl⟩
theorem dh5f (hlt:i<64):dh5A_R [1,1,1,1,1,1,1,0,1,0,0] (dh5I k_20) .normal (fun z_=>∃(k11:Nat) (k_20:dh5I_c k_18 (i+1) (p+1) k11 (Y ++ [(Q.getD i 0)])),z_=dh5I k_20):=by
  refine rn_seq (w:= [1,1,1,1,1,1,1,0,1,0,0]) (by kernel_rfl) (dh5a hlt) ?_
  rintro _ ⟨k_21,rfl⟩
  refine rn_seq (w:= [1,1,1,1,1,1,1,0,1,0,0,1]) (by kernel_rfl) dh5d ?_
  rintro _ ⟨k11,k_23,rfl⟩
  exact(dh5e).mono fun _ ⟨k_20,e_⟩=>⟨k11,k_20,e_⟩
theorem dh5g:dh5A_R [1,1,1,1,1,1,1,0,1] (dh5I k_20) .normal (fun z_=>∃(i p c9:Nat) (Y:List Int) (k_22:dh5K_c k_18 i p c9 Y),z_=dh5K k_22):=by
  refine rn_loop (k:=0) (w:= [1,1,1,1,1,1,1,0,1]) (by kernel_rfl) (fun n_ z_=>∃(i p c9:Nat) (Y:List Int) (k_20:dh5I_c k_18 i p c9 Y),n_=64 - i∧z_=dh5I k_20) _ ⟨_,_,_,_,k_20,rfl,rfl⟩ ?_
  rintro n_ _ ⟨i,p,c9,Y,k_20,hn_,rfl⟩
  have⟨hk,hN1,ht,hN2,hl⟩:=k_13
  have⟨hX,hXb,hn,hkk,hnl⟩:=k_15
  have⟨hm,hc6,hTl⟩:=k_17
  have⟨hQ⟩:=k_18
  have⟨hY,hYl,hp,hc9,hi⟩:=k_20
  by_cases hlt:i<64
  · exact(dh5f hlt).x fun _ ⟨k11_,k_20,e_⟩=> .inl ⟨rfl,64 - (i+1),by omega,⟨_,_,_,_,k_20,rfl,e_⟩⟩
  · exact(rn_seqx (w:= [1,1,1,1,1,1,1,0,1,0,0]) (by kernel_rfl) (dh5b hlt) (by simp)).x fun _ ⟨k_22,e_⟩=> .inr ⟨rfl,⟨i,p,c9,Y,k_22,e_⟩⟩
theorem dh5h:dh5A_R [1,1,1,1,1,1,1,0] (dh5H k_19) .normal (fun z_=>∃(i1 p1 c91:Nat) (Y1:List Int) (k_22:dh5K_c k_18 i1 p1 c91 Y1),z_=dh5K k_22):=by
  refine rn_seq (w:= [1,1,1,1,1,1,1,0]) (by kernel_rfl) dh59 ?_
  rintro _ ⟨k_20,rfl⟩
  exact dh5g
structure dh5M_c (_:dh5K_c k_18 i p c9 Y) (Z:List Int):Prop where
  hZ:Z=hmac5 N1 N2
variable {k_24:dh5M_c k_22 Z}
abbrev dh5M (_:dh5M_c k_22 Z):FS:=⟨false,41,[(4,.pointer (some ⟨4,0,none⟩))],[((wA .u32 64 kL2),g0),((wA .u64 80 kL5),g1),(a1,t1),(a2,t2),((wA .u8 64 Z),(29,(0,0))),((wA .u8 k X),tk),((wA .u8 c6 ((padL X 54 128) ++ N2)),(5,(0,0))),((wA .u8 64 Q),(29,(0,0))),((wA .u8 c9 Y),(5,(0,0)))]⟩
theorem dh5i:dh5A_R [1,1,1,1,1,1,1,1] (dh5K k_22) .ret (fun z_=>∃(k_24:dh5M_c k_22 (sh5 (bL (wA .u8 c9 Y) 0 p))),z_=dh5M k_24):=by
  have⟨hk,hN1,ht,hN2,hl⟩:=id k_13
  have⟨hX,hXb,hn,hkk,hnl⟩:=id k_15
  have⟨hm,hc6,hTl⟩:=id k_17
  have⟨hQ⟩:=id k_18
  have⟨hY,hYl,hp,hc9,hi⟩:=id k_22
  exact rn_ev (yty.enm (pDS2 :: pDS5 :: tabM3) [mMask] 2000004) dh5A_h mixed _ none [] [(2,(SrcOk .u8 [((wA .u32 64 kL2),g0),((wA .u64 80 kL5),g1),(a1,t1),(a2,t2),((wA .u8 64 []),(29,(0,0))),((wA .u8 k X),tk),((wA .u8 c6 ((padL X 54 128) ++ N2)),(5,(0,0))),((wA .u8 64 Q),(29,(0,0))),((wA .u8 c9 Y),(5,(0,0)))] (.slice (some ⟨8,0,none⟩) p c9) (bL (wA .u8 c9 Y) 0 p)∧(∃ x,[((wA .u32 64 kL2),g0),((wA .u64 80 kL5),g1),(a1,t1),(a2,t2),((wA .u8 64 []),(29,(0,0))),((wA .u8 k X),tk),((wA .u8 c6 ((padL X 54 128) ++ N2)),(5,(0,0))),((wA .u8 64 Q),(29,(0,0))),((wA .u8 c9 Y),(5,(0,0)))][0]? =some x)∧(bL (wA .u8 c9 Y) 0 p).length=p∧p≤1000000000)),(0,((wA .u8 64 (sh5 (bL (wA .u8 c9 Y) 0 p))).all (fun v=>v.oneCell')=true))] 0 (fun j M=>by kernel_rfl) (A1 ⟨src_k rfl (by omega) hc9,⟨_,rfl⟩,bL_len _ _ _,by omega⟩ (A1 (wA_one _ _ _) A0)) ⟨⟨by rw[bLk hYl hc9,hY,hi,List.take_of_length_le (by rw[hQ,sh5_len];decide),hQ,hX,← hmac5_pad]⟩,rfl⟩
theorem dh5u':dh5A_R [] (dh5A k_13) .ret (fun z_=>∃(n11 k11:Nat) (tk2:Tq) (n32 k32:Nat) (X2:List Int) (k13 n14 k14 k16 i17 p17 c917:Nat) (Y17:List Int) (k_15:dh5D_c k_13 tk2 n32 k32 X2) (k_17:dh5F_c k_15 n14 k14) (k_18:dh5G_c k_17 (sh5 (bL (wA .u8 k14 ((padL X2 54 128) ++ N2)) 0 n14))) (k_22:dh5K_c k_18 i17 p17 c917 Y17) (k_24:dh5M_c k_22 (sh5 (bL (wA .u8 c917 Y17) 0 p17))),z_=dh5M k_24):=by
  refine rn_seq (w:= []) (by kernel_rfl) dh50 ?_
  rintro _ rfl
  refine rn_seq (w:= [1]) (by kernel_rfl) dh51 ?_
  rintro _ ⟨n11,k11,k_14,rfl⟩
  refine rn_seq (w:= [1,1]) (by kernel_rfl) dh54 ?_
  rintro _ ⟨tk2,n32,k32,X2,k_15,rfl⟩
  refine rn_seq (w:= [1,1,1]) (by kernel_rfl) dh55 ?_
  rintro _ ⟨k13,k_16,rfl⟩
  refine rn_seq (w:= [1,1,1,1]) (by kernel_rfl) dh56 ?_
  rintro _ ⟨n14,k14,k_17,rfl⟩
  refine rn_seq (w:= [1,1,1,1,1]) (by kernel_rfl) dh57 ?_
  rintro _ ⟨k_18,rfl⟩
  refine rn_seq (w:= [1,1,1,1,1,1]) (by kernel_rfl) dh58 ?_
  rintro _ ⟨k16,k_19,rfl⟩
  refine rn_seq (w:= [1,1,1,1,1,1,1]) (by kernel_rfl) dh5h ?_
  rintro _ ⟨i17,p17,c917,Y17,k_22,rfl⟩
  exact(dh5i).mono fun _ ⟨k_24,e_⟩=>⟨n11,k11,tk2,n32,k32,X2,k13,n14,k14,k16,i17,p17,c917,Y17,k_15,k_17,k_18,k_22,k_24,e_⟩
abbrev dh5A_s (g0 g1 t1 t2:Tq) (a1 a2:Array Value) (b1 b2:Option Addr) (l1 c1 l2 c2:Nat) (N1 N2:List Int) (j:Nat→Value):List Value:=([.slice b1 l1 c1,.slice b2 l2 c2] ++ (JU 39))
abbrev dh5A_m (g0 g1 t1 t2:Tq) (a1 a2:Array Value) (b1 b2:Option Addr) (l1 c1 l2 c2:Nat) (N1 N2:List Int):List Mb:= [((wA .u32 64 kL2),g0),((wA .u64 80 kL5),g1),(a1,t1),(a2,t2)]
abbrev dh5M_s (g0 g1 t1 t2:Tq) (a1 a2:Array Value) (b1 b2:Option Addr) (l1 c1 l2 c2:Nat) (N1 N2:List Int) (tk:Tq) (n k:Nat) (X:List Int) (m c6:Nat) (Q:List Int) (i p c9:Nat) (Y:List Int) (Z:List Int) (j:Nat→Value):List Value:=(J j 0 4 ++ ([.pointer (some ⟨4,0,none⟩)] ++ (J j 5 36)))
abbrev dh5M_m (g0 g1 t1 t2:Tq) (a1 a2:Array Value) (b1 b2:Option Addr) (l1 c1 l2 c2:Nat) (N1 N2:List Int) (tk:Tq) (n k:Nat) (X:List Int) (m c6:Nat) (Q:List Int) (i p c9:Nat) (Y:List Int) (Z:List Int):List Mb:= [((wA .u32 64 kL2),g0),((wA .u64 80 kL5),g1),(a1,t1),(a2,t2),((wA .u8 64 Z),(29,(0,0))),((wA .u8 k X),tk),((wA .u8 c6 ((padL X 54 128) ++ N2)),(5,(0,0))),((wA .u8 64 Q),(29,(0,0))),((wA .u8 c9 Y),(5,(0,0)))]
theorem dh5u (g0 g1 t1 t2:Tq) (a1 a2:Array Value) (b1 b2:Option Addr) (l1 c1 l2 c2:Nat) (N1 N2:List Int) (j:Nat→Value) (hk:BytesOk [(wA .u32 64 kL2,g0),(wA .u64 80 kL5,g1),(a1,t1),(a2,t2)] b1 l1 c1) (hN1:bytesOf [(wA .u32 64 kL2,g0),(wA .u64 80 kL5,g1),(a1,t1),(a2,t2)] b1 l1=N1) (ht:BytesOk [(wA .u32 64 kL2,g0),(wA .u64 80 kL5,g1),(a1,t1),(a2,t2)] b2 l2 c2) (hN2:bytesOf [(wA .u32 64 kL2,g0),(wA .u64 80 kL5,g1),(a1,t1),(a2,t2)] b2 l2=N2) (hl:l1≤100000000∧l2≤100000000)  :Runs Tryd.prog (cAt [] (bdy Tryd.f20)) ⟨dh5A_s g0 g1 t1 t2 a1 a2 b1 b2 l1 c1 l2 c2 N1 N2 j,dh5A_m g0 g1 t1 t2 a1 a2 b1 b2 l1 c1 l2 c2 N1 N2,c0,ch0⟩ (fun e s=>e= .ret∧∃(n11:Nat) (k11:Nat) (tk2:Tq) (n32:Nat) (k32:Nat) (X2:List Int) (k13:Nat) (n14:Nat) (k14:Nat) (k16:Nat) (i17:Nat) (p17:Nat) (c917:Nat) (Y17:List Int),∃j c ch,(X2=key5 N1)∧(∀ x ∈ X2,0≤x∧x<256)∧(n32=X2.length)∧(n32≤k32)∧(n32≤128)∧(n14=128+l2)∧(n14≤k14)∧(N2.length=l2)∧((sh5 (bL (wA .u8 k14 ((padL X2 54 128) ++ N2)) 0 n14))=sh5 ((padL X2 54 128) ++ N2))∧(Y17=(padL X2 92 128) ++ (sh5 (bL (wA .u8 k14 ((padL X2 54 128) ++ N2)) 0 n14)).take i17)∧(Y17.length=p17)∧(p17=128+i17)∧(p17≤c917)∧(i17=64)∧((sh5 (bL (wA .u8 c917 Y17) 0 p17))=hmac5 N1 N2)∧s=⟨dh5M_s g0 g1 t1 t2 a1 a2 b1 b2 l1 c1 l2 c2 N1 N2 tk2 n32 k32 X2 n14 k14 (sh5 (bL (wA .u8 k14 ((padL X2 54 128) ++ N2)) 0 n14)) i17 p17 c917 Y17 (sh5 (bL (wA .u8 c917 Y17) 0 p17)) j,dh5M_m g0 g1 t1 t2 a1 a2 b1 b2 l1 c1 l2 c2 N1 N2 tk2 n32 k32 X2 n14 k14 (sh5 (bL (wA .u8 k14 ((padL X2 54 128) ++ N2)) 0 n14)) i17 p17 c917 Y17 (sh5 (bL (wA .u8 c917 Y17) 0 p17)),c,ch⟩) 2000004:=by
  refine(Rn.old (dh5u' (k_13:=(⟨hk,hN1,ht,hN2,hl⟩:dh5A_c g0 g1 t1 t2 a1 a2 b1 b2 l1 c1 l2 c2 N1 N2))) j (by kernel_rfl)).mono ?_
  rintro e s ⟨rfl,_,⟨n11,k11,tk2,n32,k32,X2,k13,n14,k14,k16,i17,p17,c917,Y17,k_15,k_17,k_18,k_22,k_24,rfl⟩,j,c,ch,rfl⟩
  have⟨x_hX,x_hXb,x_hn,x_hkk,x_hnl⟩:=k_15
  have⟨x_hm,x_hc6,x_hTl⟩:=k_17
  have⟨x_hQ⟩:=k_18
  have⟨x_hY,x_hYl,x_hp,x_hc9,x_hi⟩:=k_22
  have⟨x_hZ⟩:=k_24
  exact⟨rfl,n11,k11,tk2,n32,k32,X2,k13,n14,k14,k16,i17,p17,c917,Y17,j,c,ch,x_hX,x_hXb,x_hn,x_hkk,x_hnl,x_hm,x_hc6,x_hTl,x_hQ,x_hY,x_hYl,x_hp,x_hc9,x_hi,x_hZ,by kernel_rfl⟩
end Go.Proofs.YtcfnjcacdmkgbaaDoor
