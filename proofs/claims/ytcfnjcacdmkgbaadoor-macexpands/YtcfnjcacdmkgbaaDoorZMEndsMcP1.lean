import Derived.Test.YtcfnjcacdmkgbaaDoorZMEndsMcC1
import Derived.Test.YtcfnjcacdmkgbaaDoorZMEndsEvW1
import Derived.Test.YtcfnjcacdmkgbaaDoorZMEndsSdS1
set_option linter.unusedSimpArgs false
set_option linter.unusedVariables false
/-! mac: noughts behind a key. -/
namespace Go.Proofs.YtcfnjcacdmkgbaaDoor
open Go.RowKit Go.Ev
variable {c0:Prop} {ch0:List (Option Value)}
theorem al_b {mem:List Mb} {b:Option Addr} {l c:Nat} (h:BytesOk mem b l c) {i M:Nat} (hi:mem.length≤i):al i M (.slice b l c)= .slice b l c:=by
  rcases h with⟨rfl,rfl,rfl⟩|⟨k,o,src,st,rfl,hm,_⟩
  · rfl
  · have := (List.getElem?_eq_some_iff.1 hm).1
    simp only[al]
    rw[if_neg (by omega)]
theorem bLk {n k:Nat} {L:List Int} (h:L.length=n) (hk:n≤k):bL (wA .u8 k L) 0 n=L:=by
  apply List.ext_getElem?
  intro i
  by_cases hi:i<n
  · have h1 := bL_at (a := wA .u8 k L) (p := 0) (r := n) (i := i)
    rw[if_pos hi,Nat.zero_add] at h1
    have h2:iat (wA .u8 k L) i=L.getD i 0:=by unfold iat;rw[wA_at (by omega)]
    rw[h2,List.getD_eq_getElem?_getD,List.getD_eq_getElem?_getD] at h1
    have l1:i<(bL (wA .u8 k L) 0 n).length:=by rw[bL_len];exact hi
    rw[List.getElem?_eq_getElem l1,List.getElem?_eq_getElem (by omega)] at h1 ⊢
    exact congrArg some h1
  · rw[List.getElem?_eq_none (by rw[bL_len];omega),List.getElem?_eq_none (by omega)]
theorem bt_k {n k:Nat} {L:List Int} (hk:n≤k) (h:∀ x ∈ L,0≤x∧x<256):bytesAt (wA .u8 k L) 0 n:=fun j hj=>by
  have h1:=(bytes_wA (n:=k) h) j (by omega)
  exact h1
end Go.Proofs.YtcfnjcacdmkgbaaDoor

set_option linter.unusedSimpArgs false
set_option linter.unusedVariables false
/-! The document's HMAC. -/
namespace Go.Proofs.YtcfnjcacdmkgbaaDoor
open Go.RowKit Go.Ev
variable {c0:Prop} {ch0:List (Option Value)}
def tabP7:List (Entry Tryd.prog):=pDS2 :: tabM3
theorem with_lift {P:Program} {f:FuncId} {mem:List Mb} {i:Nat} {a:Array Value} {t:Tq} {o l cp n ng:Nat} {b:Int} {L:List Int} {e:TypeId} (h:MakesA P f [(a,t)] [.slice (some ⟨0,o,none⟩) l cp,.int .i64 (n:Int),.int .u8 b] .u8 n L e) (hm:mem[i]? =some (a,t)):MakesA P f mem [.slice (some ⟨i,o,none⟩) l cp,.int .i64 (n:Int),.int .u8 b] .u8 n L e ng:=fun w β hw hg=>
  h w (fun _ => β i) (fun j x hx => by
    cases j with
    | zero =>
      simp only[List.getElem?_cons_zero,Option.some.injEq] at hx
      subst hx
      exact hw i _ hm
    |succ j=>simp at hx) (fun i h=>by simp at h)
theorem src_k {mem:List Mb} {i n k:Nat} {L:List Int} {st:Tq} (hm:mem[i]? =some (wA .u8 k L,st)) (hn:n=L.length) (hk:n≤k):SrcOk .u8 mem (.slice (some ⟨i,0,none⟩) n k) (bL (wA .u8 k L) 0 n):=by
  rw[bLk hn.symm hk]
  exact src_wA hm hn (by omega)
def dh2A_h (i:Nat):Hn:=⟨0,[],[],[],[]⟩
abbrev dh2A_R (w:List Nat) (S:FS) (e:Exit) (K:FS→Prop):Prop:=Rn Tryd.prog (cAt w (bdy Tryd.f19)) S e K 2000004
structure dh2A_c (g0 g1 t1 t2:Tq) (a1 a2:Array Value) (b1 b2:Option Addr) (l1 c1 l2 c2:Nat) (N1 N2:List Int):Prop where
  hk:BytesOk [(wA .u32 64 kL2,g0),(wA .u64 80 kL5,g1),(a1,t1),(a2,t2)] b1 l1 c1
  hN1:bytesOf [(wA .u32 64 kL2,g0),(wA .u64 80 kL5,g1),(a1,t1),(a2,t2)] b1 l1=N1
  ht:BytesOk [(wA .u32 64 kL2,g0),(wA .u64 80 kL5,g1),(a1,t1),(a2,t2)] b2 l2 c2
  hN2:bytesOf [(wA .u32 64 kL2,g0),(wA .u64 80 kL5,g1),(a1,t1),(a2,t2)] b2 l2=N2
  hl:l1≤100000000∧l2≤100000000
variable {g0 g1 t1 t2:Tq} {a1 a2:Array Value} {b1 b2:Option Addr} {l1 c1 l2 c2:Nat} {N1 N2:List Int} {k_1:dh2A_c g0 g1 t1 t2 a1 a2 b1 b2 l1 c1 l2 c2 N1 N2}
abbrev dh2A (_:dh2A_c g0 g1 t1 t2 a1 a2 b1 b2 l1 c1 l2 c2 N1 N2):FS:=⟨true,41,[(0,.slice b1 l1 c1),(1,.slice b2 l2 c2)],[((wA .u32 64 kL2),g0),((wA .u64 80 kL5),g1),(a1,t1),(a2,t2)]⟩
abbrev dh2B (_:dh2A_c g0 g1 t1 t2 a1 a2 b1 b2 l1 c1 l2 c2 N1 N2):FS:=⟨false,41,[(0,.slice b1 l1 c1),(1,.slice b2 l2 c2),(4,.pointer (some ⟨4,0,none⟩))],[((wA .u32 64 kL2),g0),((wA .u64 80 kL5),g1),(a1,t1),(a2,t2),((wA .u8 32 []),(25,(0,0)))]⟩
theorem dh20:dh2A_R [0] (dh2A k_1) .normal (fun z_=>z_=dh2B k_1):=rn_ev (yty.enm tabP7 [mMask] 2000004) dh2A_h mixed _ none [] [] 0 (fun j M=>by kernel_rfl) A0 rfl
structure dh2C_c (_:dh2A_c g0 g1 t1 t2 a1 a2 b1 b2 l1 c1 l2 c2 N1 N2) (n k:Nat):Prop where
  hn:n=l1
  hkk:n≤k
  hNl:N1.length=l1
variable {n k:Nat} {k_2:dh2C_c k_1 n k}
abbrev dh2C (_:dh2C_c k_1 n k):FS:=⟨false,41,[(1,.slice b2 l2 c2),(4,.pointer (some ⟨4,0,none⟩)),(5,.slice (some ⟨5,0,none⟩) n k)],[((wA .u32 64 kL2),g0),((wA .u64 80 kL5),g1),(a1,t1),(a2,t2),((wA .u8 32 []),(25,(0,0))),((wA .u8 k N1),(5,(0,0)))]⟩
theorem dh21:dh2A_R [1,0] (dh2B k_1) .normal (fun z_=>∃(n1 k1:Nat) (k_2:dh2C_c k_1 n1 k1),z_=dh2C k_2):=by
  have⟨hk,hN1,ht,hN2,hl⟩:=id k_1
  have hNl:N1.length=l1:=by rw[← hN1];exact hk.len
  have hTl:N2.length=l2:=by rw[← hN2];exact ht.len
  have hx1:∀ i M,4≤i→al i M (.slice b1 l1 c1)= .slice b1 l1 c1:=fun i M h=>al_b hk h
  have hx2:∀ i M,4≤i→al i M (.slice b2 l2 c2)= .slice b2 l2 c2:=fun i M h=>al_b ht h
  refine rn_reg none (by kernel_rfl) fun j c0 ch0=> ?_
  refine rl_app (yty.enm tabP7 [mMask] 2000004) apB apB.ht 2 [] [] 1 [((wA .u32 64 kL2),g0),((wA .u64 80 kL5),g1),(a1,t1),(a2,t2),((wA .u8 32 []),(25,(0,0))),((wA .u8 0 []),(5,(0,0)))] 5 0 0 ([]:List Int) N1 (.slice b1 l1 c1) (some 13) (by kernel_rfl) A0 rfl (Nat.zero_le _) (SrcOk.app (x:= [_,_]) (hN1 ▸ hk.src)) (by simp;omega) fun n1 k1 M1 c1_ e1_ hn1 hk1=> ?_
  try simp only[zL] at hn1
  exact rl_end (E:=(yty.enm tabP7 [mMask] 2000004)) (⟨false,41,[(1,al 5 M1 (.slice b2 l2 c2)),(4,.pointer (some ⟨4,0,none⟩)),(5,.slice (some ⟨5,0,none⟩) n1 k1)],[((wA .u32 64 kL2),g0),((wA .u64 80 kL5),g1),(a1,t1),(a2,t2),((wA .u8 32 []),(25,(0,0))),((wA .u8 k1 (([]:List Int) ++ N1)),(5,(0,0)))]⟩) [] [] 1 (fun M=>by kernel_rfl) A0 ⟨n1,k1,⟨by simp at hn1;omega,hk1,hNl⟩,(by
    delta dh2C
    simp only[hx1 _ _ (by decide:4≤5),hx2 _ _ (by decide:4≤5)]
    try kernel_rfl)⟩
structure dh2D_c (_:dh2A_c g0 g1 t1 t2 a1 a2 b1 b2 l1 c1 l2 c2 N1 N2) (tk:Tq) (n k:Nat) (X:List Int):Prop where
  hX:X=key2 N1
  hXb:∀ x ∈ X,0≤x∧x<256
  hn:n=X.length
  hkk:n≤k
  hnl:n≤64
variable {tk:Tq} {X:List Int} {k_3:dh2D_c k_1 tk n k X}
abbrev dh2D (_:dh2D_c k_1 tk n k X):FS:=⟨false,41,[(1,.slice b2 l2 c2),(4,.pointer (some ⟨4,0,none⟩)),(5,.slice (some ⟨5,0,none⟩) n k)],[((wA .u32 64 kL2),g0),((wA .u64 80 kL5),g1),(a1,t1),(a2,t2),((wA .u8 32 []),(25,(0,0))),((wA .u8 k X),tk)]⟩
theorem dh22 (hc:¬ 64<l1):dh2A_R [1,1,0] (dh2C k_2) .normal (fun z_=>∃(k_3:dh2D_c k_1 (5,(0,0)) n k N1),z_=dh2D k_3):=by
  have⟨hk,hN1,ht,hN2,hl⟩:=id k_1
  have⟨hn,hkk,hNl⟩:=id k_2
  have hNb:∀ x ∈ N1,0≤x∧x<256:=by rw[← hN1];exact hk.bt
  exact rn_ev (yty.enm tabP7 [mMask] 2000004) dh2A_h mixed _ none [some (.bool false)] [(5,(decide (64<(n:Int)))=false)] 0 (fun j M=>by kernel_rfl) (A1 (decide_eq_false (by omega)) A0) ⟨⟨by unfold key2;rw[if_pos (by omega)],hNb,by omega,hkk,by omega⟩,rfl⟩
theorem dh23 (hc : 64 < l1) : dh2A_R [1, 1, 0] (dh2C k_2) .normal (fun z_ => ∃ (k_3 : dh2D_c k_1 (25, (0, 0)) 32 32 (sh2 (bL (wA .u8 k N1) 0 n))), z_ = dh2D k_3) := by
  have⟨hk,hN1,ht,hN2,hl⟩:=id k_1
  have⟨hn,hkk,hNl⟩:=id k_2
  have hNb:∀ x ∈ N1,0≤x∧x<256:=by rw[← hN1];exact hk.bt
  exact rn_evM (yty.enm tabP7 [mMask] 2000004) dh2A_h mixed (fun M => ⟨false, 41, [(1, ov 5 6 M (.slice b2 l2 c2)), (4, .pointer (some ⟨4, 0, none⟩)), (5, .slice (some ⟨5, 0, none⟩) 32 32)], [((wA .u32 64 kL2), g0), ((wA .u64 80 kL5), g1), (a1, t1), (a2, t2), ((wA .u8 32 []), (25, (0, 0))), ((wA .u8 32 (sh2 (bL (wA .u8 k N1) 0 n))), (25, (0, 0)))]⟩) (some (true, 5)) [some (.bool true)] [(5, (decide (64 < (n:Int))) = true), (2, (SrcOk .u8 [((wA .u32 64 kL2), g0), ((wA .u64 80 kL5), g1), (a1, t1), (a2, t2), ((wA .u8 32 []), (25, (0, 0))), ((wA .u8 k N1), (5, (0, 0)))] (.slice (some ⟨5, 0, none⟩) n k) (bL (wA .u8 k N1) 0 n) ∧ (∃ x, [((wA .u32 64 kL2), g0), ((wA .u64 80 kL5), g1), (a1, t1), (a2, t2), ((wA .u8 32 []), (25, (0, 0))), ((wA .u8 k N1), (5, (0, 0)))][0]? = some x) ∧ (bL (wA .u8 k N1) 0 n).length = n ∧ n ≤ 1000000000)), (0, ((wA .u8 32 (sh2 (bL (wA .u8 k N1) 0 n))).all (fun v => v.oneCell') = true))] 2 (fun j M => by kernel_rfl) (A1 (decide_eq_true (by omega)) (A1 ⟨src_k rfl (by omega) hkk, ⟨_, rfl⟩, bL_len _ _ _, by omega⟩ (A1 (wA_one _ _ _) A0))) fun M => ⟨⟨by rw [bLk (by omega) hkk]; unfold key2; rw [if_neg (by omega)], sh2_bt _, (sh2_len _).symm, Nat.le_refl _, by decide⟩, (by
    delta dh2D
    rcases ht with⟨rfl,rfl,rfl⟩|⟨i0,o0,src0,st0,rfl,hm0,_⟩
    · kernel_rfl
    · have hi0 : i0 < 4 := (List.getElem?_eq_some_iff.1 hm0).1
      have hi1:i0=0∨i0=1∨i0=2∨i0=3:=by omega
      rcases hi1 with rfl|rfl|rfl|rfl
      · show _ = _
        kernel_rfl
      · show _ = _
        kernel_rfl
      · show _ = _
        kernel_rfl
      · show _ = _
        kernel_rfl)⟩
theorem dh24:dh2A_R [1,1,0] (dh2C k_2) .normal (fun z_=>∃(tk:Tq) (n3 k3:Nat) (X:List Int) (k_3:dh2D_c k_1 tk n3 k3 X),z_=dh2D k_3):=by
  by_cases hc:64<l1
  · exact(dh23 hc).mono fun _ ⟨k_3,e_⟩=>⟨_,_,_,_,k_3,e_⟩
  · exact(dh22 hc).mono fun _ ⟨k_3,e_⟩=>⟨_,_,_,_,k_3,e_⟩
structure dh2E_c (_:dh2D_c k_1 tk n k X) (c6:Nat):Prop where
  hc6:64≤c6
variable {c6:Nat} {k_4:dh2E_c k_3 c6}
abbrev dh2E (_:dh2E_c k_3 c6):FS:=⟨false,41,[(1,.slice b2 l2 c2),(4,.pointer (some ⟨4,0,none⟩)),(5,.slice (some ⟨5,0,none⟩) n k),(7,.slice (some ⟨6,0,none⟩) 64 c6)],[((wA .u32 64 kL2),g0),((wA .u64 80 kL5),g1),(a1,t1),(a2,t2),((wA .u8 32 []),(25,(0,0))),((wA .u8 k X),tk),((wA .u8 c6 (padL X 54 64)),(5,(0,0)))]⟩
theorem dh25:dh2A_R [1,1,1,0] (dh2D k_3) .normal (fun z_=>∃(k1:Nat) (k_4:dh2E_c k_3 k1),z_=dh2E k_4):=by
  have⟨hk,hN1,ht,hN2,hl⟩:=id k_1
  have⟨hX,hXb,hn,hkk,hnl⟩:=id k_3
  refine rn_reg none (by kernel_rfl) fun j c0 ch0=> ?_
  have hM1:MakesA Tryd.prog 37 [((wA .u32 64 kL2),g0),((wA .u64 80 kL5),g1),(a1,t1),(a2,t2),((wA .u8 32 []),(25,(0,0))),((wA .u8 k X),tk)] [.slice (some ⟨5,0,none⟩) n k,.int .i64 64,.int .u8 54] .u8 64 (padL X 54 64) 5 2:=(by have hw:=With_c (wA .u8 k X) tk 0 n k 64 54 (bt_k hkk hXb) (by omega) (by decide);rw[bLk hn.symm hkk] at hw;exact with_lift hw rfl)
  refine rl_call (yty.enm tabP7 [mMask] 2000004) (call_of Tryd.func37 (by kernel_rfl) (by kernel_rfl)) 1 [] [] 1 6 (some 21) hM1 (by kernel_rfl) A0 fun k1 c1_ e1_ hk1=> ?_
  exact rl_end (E:=(yty.enm tabP7 [mMask] 2000004)) _ [] [] 1 (fun M=>by kernel_rfl) A0 ⟨k1,⟨by rw[padL_len] at hk1;exact hk1⟩,rfl⟩
structure dh2F_c (_:dh2D_c k_1 tk n k X) (m c6:Nat):Prop where
  hm:m=64+l2
  hc6:m≤c6
  hTl:N2.length=l2
variable {m:Nat} {k_5:dh2F_c k_3 m c6}
abbrev dh2F (_:dh2F_c k_3 m c6):FS:=⟨false,41,[(4,.pointer (some ⟨4,0,none⟩)),(5,.slice (some ⟨5,0,none⟩) n k),(7,.slice (some ⟨6,0,none⟩) m c6)],[((wA .u32 64 kL2),g0),((wA .u64 80 kL5),g1),(a1,t1),(a2,t2),((wA .u8 32 []),(25,(0,0))),((wA .u8 k X),tk),((wA .u8 c6 ((padL X 54 64) ++ N2)),(5,(0,0)))]⟩
theorem dh26:dh2A_R [1,1,1,1,0] (dh2E k_4) .normal (fun z_=>∃(n1 k1:Nat) (k_5:dh2F_c k_3 n1 k1),z_=dh2F k_5):=by
  have⟨hk,hN1,ht,hN2,hl⟩:=id k_1
  have⟨hX,hXb,hn,hkk,hnl⟩:=id k_3
  have⟨hc6⟩:=id k_4
  have hNl:N1.length=l1:=by rw[← hN1];exact hk.len
  have hTl:N2.length=l2:=by rw[← hN2];exact ht.len
  have hx1:∀ i M,4≤i→al i M (.slice b1 l1 c1)= .slice b1 l1 c1:=fun i M h=>al_b hk h
  have hx2:∀ i M,4≤i→al i M (.slice b2 l2 c2)= .slice b2 l2 c2:=fun i M h=>al_b ht h
  refine rn_reg none (by kernel_rfl) fun j c0 ch0=> ?_
  refine rl_app (yty.enm tabP7 [mMask] 2000004) apB apB.ht 2 [] [] 2 [((wA .u32 64 kL2),g0),((wA .u64 80 kL5),g1),(a1,t1),(a2,t2),((wA .u8 32 []),(25,(0,0))),((wA .u8 k X),tk),((wA .u8 c6 (padL X 54 64)),(5,(0,0)))] 6 64 c6 (padL X 54 64) N2 (.slice b2 l2 c2) (some 24) (by kernel_rfl) A0 (by rw[padL_len]) (by rw[padL_len];exact hc6) (SrcOk.app (x:= [_,_,_]) (hN2 ▸ ht.src)) (by rw[padL_len];omega) fun n1 k1 M1 c1_ e1_ hn1 hk1=> ?_
  try simp only[zL] at hn1
  exact rl_end (E:=(yty.enm tabP7 [mMask] 2000004)) (⟨false,41,[(4,.pointer (some ⟨4,0,none⟩)),(5,.slice (some ⟨5,0,none⟩) n k),(7,.slice (some ⟨6,0,none⟩) n1 k1)],[((wA .u32 64 kL2),g0),((wA .u64 80 kL5),g1),(a1,t1),(a2,t2),((wA .u8 32 []),(25,(0,0))),((wA .u8 k X),tk),((wA .u8 k1 ((padL X 54 64) ++ N2)),(5,(0,0)))]⟩) [] [] 1 (fun M=>by kernel_rfl) A0 ⟨n1,k1,⟨by rw[padL_len] at hn1;omega,hk1,hTl⟩,(by
    delta dh2F
    simp only[hx2 _ _ (by decide:4≤6)]
    try kernel_rfl)⟩
structure dh2G_c (_:dh2F_c k_3 m c6) (Q:List Int):Prop where
  hQ:Q=sh2 ((padL X 54 64) ++ N2)
variable {Q:List Int} {k_6:dh2G_c k_5 Q}
abbrev dh2G (_:dh2G_c k_5 Q):FS:=⟨false,41,[(4,.pointer (some ⟨4,0,none⟩)),(5,.slice (some ⟨5,0,none⟩) n k),(8,.pointer (some ⟨7,0,none⟩))],[((wA .u32 64 kL2),g0),((wA .u64 80 kL5),g1),(a1,t1),(a2,t2),((wA .u8 32 []),(25,(0,0))),((wA .u8 k X),tk),((wA .u8 c6 ((padL X 54 64) ++ N2)),(5,(0,0))),((wA .u8 32 Q),(25,(0,0)))]⟩
theorem dh27:dh2A_R [1,1,1,1,1,0] (dh2F k_5) .normal (fun z_=>∃(k_6:dh2G_c k_5 (sh2 (bL (wA .u8 c6 ((padL X 54 64) ++ N2)) 0 m))),z_=dh2G k_6):=by
  have⟨hk,hN1,ht,hN2,hl⟩:=id k_1
  have⟨hX,hXb,hn,hkk,hnl⟩:=id k_3
  have⟨hm,hc6,hTl⟩:=id k_5
  exact rn_ev (yty.enm tabP7 [mMask] 2000004) dh2A_h mixed _ none [] [(2,(SrcOk .u8 [((wA .u32 64 kL2),g0),((wA .u64 80 kL5),g1),(a1,t1),(a2,t2),((wA .u8 32 []),(25,(0,0))),((wA .u8 k X),tk),((wA .u8 c6 ((padL X 54 64) ++ N2)),(5,(0,0)))] (.slice (some ⟨6,0,none⟩) m c6) (bL (wA .u8 c6 ((padL X 54 64) ++ N2)) 0 m)∧(∃ x,[((wA .u32 64 kL2),g0),((wA .u64 80 kL5),g1),(a1,t1),(a2,t2),((wA .u8 32 []),(25,(0,0))),((wA .u8 k X),tk),((wA .u8 c6 ((padL X 54 64) ++ N2)),(5,(0,0)))][0]? =some x)∧(bL (wA .u8 c6 ((padL X 54 64) ++ N2)) 0 m).length=m∧m≤1000000000)),(0,((wA .u8 32 (sh2 (bL (wA .u8 c6 ((padL X 54 64) ++ N2)) 0 m))).all (fun v=>v.oneCell')=true))] 0 (fun j M=>by kernel_rfl) (A1 ⟨src_k rfl (by rw[List.length_append,padL_len];omega) hc6,⟨_,rfl⟩,bL_len _ _ _,by omega⟩ (A1 (wA_one _ _ _) A0)) ⟨⟨by rw[bLk (by rw[List.length_append,padL_len];omega) hc6]⟩,rfl⟩
structure dh2H_c (_:dh2G_c k_5 Q) (i p c9:Nat) (Y:List Int):Prop where
  hY:Y=(padL X 92 64) ++ Q.take i
  hYl:Y.length=p
  hp:p=64+i
  hc9:p≤c9
  hi:i=0
variable {i p c9:Nat} {Y:List Int} {k_7:dh2H_c k_6 i p c9 Y}
abbrev dh2H (_:dh2H_c k_6 i p c9 Y):FS:=⟨false,41,[(4,.pointer (some ⟨4,0,none⟩)),(8,.pointer (some ⟨7,0,none⟩)),(9,.slice (some ⟨8,0,none⟩) p c9)],[((wA .u32 64 kL2),g0),((wA .u64 80 kL5),g1),(a1,t1),(a2,t2),((wA .u8 32 []),(25,(0,0))),((wA .u8 k X),tk),((wA .u8 c6 ((padL X 54 64) ++ N2)),(5,(0,0))),((wA .u8 32 Q),(25,(0,0))),((wA .u8 c9 Y),(5,(0,0)))]⟩
theorem dh28:dh2A_R [1,1,1,1,1,1,0] (dh2G k_6) .normal (fun z_=>∃(k1:Nat) (k_7:dh2H_c k_6 0 64 k1 (padL X 92 64)),z_=dh2H k_7):=by
  have⟨hk,hN1,ht,hN2,hl⟩:=id k_1
  have⟨hX,hXb,hn,hkk,hnl⟩:=id k_3
  have⟨hm,hc6,hTl⟩:=id k_5
  have⟨hQ⟩:=id k_6
  refine rn_reg none (by kernel_rfl) fun j c0 ch0=> ?_
  have hM1:MakesA Tryd.prog 37 [((wA .u32 64 kL2),g0),((wA .u64 80 kL5),g1),(a1,t1),(a2,t2),((wA .u8 32 []),(25,(0,0))),((wA .u8 k X),tk),((wA .u8 c6 ((padL X 54 64) ++ N2)),(5,(0,0))),((wA .u8 32 Q),(25,(0,0)))] [.slice (some ⟨5,0,none⟩) n k,.int .i64 64,.int .u8 92] .u8 64 (padL X 92 64) 5 2:=(by have hw:=With_c (wA .u8 k X) tk 0 n k 64 92 (bt_k hkk hXb) (by omega) (by decide);rw[bLk hn.symm hkk] at hw;exact with_lift hw rfl)
  refine rl_call (yty.enm tabP7 [mMask] 2000004) (call_of Tryd.func37 (by kernel_rfl) (by kernel_rfl)) 1 [] [] 1 8 (some 28) hM1 (by kernel_rfl) A0 fun k1 c1_ e1_ hk1=> ?_
  exact rl_end (E:=(yty.enm tabP7 [mMask] 2000004)) _ [] [] 1 (fun M=>by kernel_rfl) A0 ⟨k1,⟨by simp,padL_len _ _ _,rfl,by rw[padL_len] at hk1;exact hk1,rfl⟩,rfl⟩
structure dh2I_c (_:dh2G_c k_5 Q) (i p c9:Nat) (Y:List Int):Prop where
  hY:Y=(padL X 92 64) ++ Q.take i
  hYl:Y.length=p
  hp:p=64+i
  hc9:p≤c9
  hi:i≤32
variable {k_8:dh2I_c k_6 i p c9 Y}
abbrev dh2I (_:dh2I_c k_6 i p c9 Y):FS:=⟨false,41,[(4,.pointer (some ⟨4,0,none⟩)),(8,.pointer (some ⟨7,0,none⟩)),(9,.slice (some ⟨8,0,none⟩) p c9),(10,.int .i64 (i:Int))],[((wA .u32 64 kL2),g0),((wA .u64 80 kL5),g1),(a1,t1),(a2,t2),((wA .u8 32 []),(25,(0,0))),((wA .u8 k X),tk),((wA .u8 c6 ((padL X 54 64) ++ N2)),(5,(0,0))),((wA .u8 32 Q),(25,(0,0))),((wA .u8 c9 Y),(5,(0,0)))]⟩
theorem dh29:dh2A_R [1,1,1,1,1,1,1,0,0] (dh2H k_7) .normal (fun z_=>∃(k_8:dh2I_c k_6 0 p c9 Y),z_=dh2I k_8):=by
  have⟨hk,hN1,ht,hN2,hl⟩:=id k_1
  have⟨hX,hXb,hn,hkk,hnl⟩:=id k_3
  have⟨hm,hc6,hTl⟩:=id k_5
  have⟨hQ⟩:=id k_6
  have⟨hY,hYl,hp,hc9,hi⟩:=id k_7
  exact rn_ev (yty.enm tabP7 [mMask] 2000004) dh2A_h mixed _ none [] [] 1 (fun j M=>by kernel_rfl) A0 ⟨⟨by rw[hY,hi],hYl,by omega,hc9,by omega⟩,rfl⟩
structure dh2J_c (_:dh2G_c k_5 Q) (i p c9:Nat) (Y:List Int):Prop where
  hY:Y=(padL X 92 64) ++ Q.take i
  hYl:Y.length=p
  hp:p=64+i
  hc9:p≤c9
  hi:i<32
variable {k_9:dh2J_c k_6 i p c9 Y}
abbrev dh2J (_:dh2J_c k_6 i p c9 Y):FS:=⟨false,41,[(4,.pointer (some ⟨4,0,none⟩)),(8,.pointer (some ⟨7,0,none⟩)),(9,.slice (some ⟨8,0,none⟩) p c9),(10,.int .i64 (i:Int))],[((wA .u32 64 kL2),g0),((wA .u64 80 kL5),g1),(a1,t1),(a2,t2),((wA .u8 32 []),(25,(0,0))),((wA .u8 k X),tk),((wA .u8 c6 ((padL X 54 64) ++ N2)),(5,(0,0))),((wA .u8 32 Q),(25,(0,0))),((wA .u8 c9 Y),(5,(0,0)))]⟩
theorem dh2a (hlt:i<32):dh2A_R [1,1,1,1,1,1,1,0,1,0,0,0] (dh2I k_8) .normal (fun z_=>∃(k_9:dh2J_c k_6 i p c9 Y),z_=dh2J k_9):=by
  have⟨hk,hN1,ht,hN2,hl⟩:=id k_1
  have⟨hX,hXb,hn,hkk,hnl⟩:=id k_3
  have⟨hm,hc6,hTl⟩:=id k_5
  have⟨hQ⟩:=id k_6
  have⟨hY,hYl,hp,hc9,hi⟩:=id k_8
  exact rn_ev (yty.enm tabP7 [mMask] 2000004) dh2A_h mixed _ none [some (.bool true)] [(3,(decide ((i:Int)<32))=true)] 0 (fun j M=>by kernel_rfl) (A1 (decide_eq_true (by omega)) A0) ⟨⟨hY,hYl,hp,hc9,hlt⟩,rfl⟩
structure dh2K_c (_:dh2G_c k_5 Q) (i p c9:Nat) (Y:List Int):Prop where
  hY:Y=(padL X 92 64) ++ Q.take i
  hYl:Y.length=p
  hp:p=64+i
  hc9:p≤c9
  hi:i=32
variable {k_10:dh2K_c k_6 i p c9 Y}
abbrev dh2K (_:dh2K_c k_6 i p c9 Y):FS:=⟨false,41,[(4,.pointer (some ⟨4,0,none⟩)),(8,.pointer (some ⟨7,0,none⟩)),(9,.slice (some ⟨8,0,none⟩) p c9)],[((wA .u32 64 kL2),g0),((wA .u64 80 kL5),g1),(a1,t1),(a2,t2),((wA .u8 32 []),(25,(0,0))),((wA .u8 k X),tk),((wA .u8 c6 ((padL X 54 64) ++ N2)),(5,(0,0))),((wA .u8 32 Q),(25,(0,0))),((wA .u8 c9 Y),(5,(0,0)))]⟩
theorem dh2b (hge:¬ i<32):dh2A_R [1,1,1,1,1,1,1,0,1,0,0,0] (dh2I k_8) (.exit 0) (fun z_=>∃(k_10:dh2K_c k_6 i p c9 Y),z_=dh2K k_10):=by
  have⟨hk,hN1,ht,hN2,hl⟩:=id k_1
  have⟨hX,hXb,hn,hkk,hnl⟩:=id k_3
  have⟨hm,hc6,hTl⟩:=id k_5
  have⟨hQ⟩:=id k_6
  have⟨hY,hYl,hp,hc9,hi⟩:=id k_8
  exact rn_ev (yty.enm tabP7 [mMask] 2000004) dh2A_h mixed _ none [some (.bool false)] [(3,(decide ((i:Int)<32))=false)] 0 (fun j M=>by kernel_rfl) (A1 (decide_eq_false (by omega)) A0) ⟨⟨hY,hYl,hp,hc9,by omega⟩,rfl⟩
structure dh2L_c (_:dh2G_c k_5 Q) (i p c9:Nat) (Y:List Int):Prop where
  hY:Y=(padL X 92 64) ++ Q.take (i+1)
  hYl:Y.length=p
  hp:p=64+(i+1)
  hc9:p≤c9
  hi:i<32
variable {k_11:dh2L_c k_6 i p c9 Y}
abbrev dh2L (_:dh2L_c k_6 i p c9 Y):FS:=⟨false,41,[(4,.pointer (some ⟨4,0,none⟩)),(8,.pointer (some ⟨7,0,none⟩)),(9,.slice (some ⟨8,0,none⟩) p c9),(10,.int .i64 (i:Int))],[((wA .u32 64 kL2),g0),((wA .u64 80 kL5),g1),(a1,t1),(a2,t2),((wA .u8 32 []),(25,(0,0))),((wA .u8 k X),tk),((wA .u8 c6 ((padL X 54 64) ++ N2)),(5,(0,0))),((wA .u8 32 Q),(25,(0,0))),((wA .u8 c9 Y),(5,(0,0)))]⟩
theorem dh2c:dh2A_R [1,1,1,1,1,1,1,0,1,0,0,1,0,0] (dh2J k_9) .normal (fun z_=>∃(k1:Nat) (k_11:dh2L_c k_6 i (p+1) k1 (Y ++ [(Q.getD i 0)])),z_=dh2L k_11):=by
  have⟨hk,hN1,ht,hN2,hl⟩:=id k_1
  have⟨hX,hXb,hn,hkk,hnl⟩:=id k_3
  have⟨hm,hc6,hTl⟩:=id k_5
  have⟨hQ⟩:=id k_6
  have⟨hY,hYl,hp,hc9,hi⟩:=id k_9
  refine rn_reg (some (false,9)) (by kernel_rfl) fun j c0 ch0=> ?_
  refine rl_app (yty.enm tabP7 [mMask] 2000004) apB apB.ht 5 [some (.int .u8 (Q.getD i 0))] [(4,(0≤(i:Int)∧(i:Int)<((32:Nat):Int))),(0,(((wA .u8 32 Q)[(0+Int.toNat (i:Int)*1)]? =some (.int .u8 (Q.getD i 0)))∧(Q.getD i 0)=(Q.getD i 0)))] 0 [((wA .u32 64 kL2),g0),((wA .u64 80 kL5),g1),(a1,t1),(a2,t2),((wA .u8 32 []),(25,(0,0))),((wA .u8 k X),tk),((wA .u8 c6 ((padL X 54 64) ++ N2)),(5,(0,0))),((wA .u8 32 Q),(25,(0,0))),((wA .u8 c9 Y),(5,(0,0))),((wA .u8 1 [(Q.getD i 0)]),(5,(0,0)))] 8 p c9 Y ([(Q.getD i 0)]) (.slice (some ⟨9,0,none⟩) 1 1) (some 38) (by kernel_rfl) (A1 (by(try simp only[Int.toNat_natCast,wA_size]);omega) (A1 ⟨(wA_get (by omega) (by omega)),rfl⟩ A0)) (by omega) (by omega) (src_wA (i:=9) rfl rfl (Nat.le_refl 1)) (by simp only[List.length_cons,List.length_nil];omega) fun n1 k1 M1 c1_ e1_ hn1 hk1=> ?_
  try simp only[zL] at hn1
  obtain rfl:n1=p+1:=by simp at hn1;omega
  exact rl_end (E:=(yty.enm tabP7 [mMask] 2000004)) _ [] [] 1 (fun M=>by kernel_rfl) A0 ⟨k1,⟨by rw[hY,List.append_assoc,tk_step (by rw[hQ,sh2_len];exact hi)],by simp;omega,by omega,by simp at hn1;omega,hi⟩,rfl⟩
theorem dh2d:dh2A_R [1,1,1,1,1,1,1,0,1,0,0,1,0] (dh2J k_9) .normal (fun z_=>∃(k1:Nat) (k_11:dh2L_c k_6 i (p+1) k1 (Y ++ [(Q.getD i 0)])),z_=dh2L k_11):=rn_block (k:=1) (w:= [1,1,1,1,1,1,1,0,1,0,0,1,0]) (by kernel_rfl) dh2c
theorem dh2e:dh2A_R [1,1,1,1,1,1,1,0,1,0,0,1,1] (dh2L k_11) .normal (fun z_=>∃(k_8:dh2I_c k_6 (i+1) p c9 Y),z_=dh2I k_8):=by
  have⟨hk,hN1,ht,hN2,hl⟩:=id k_1
  have⟨hX,hXb,hn,hkk,hnl⟩:=id k_3
  have⟨hm,hc6,hTl⟩:=id k_5
  have⟨hQ⟩:=id k_6
  have⟨hY,hYl,hp,hc9,hi⟩:=id k_11
  exact rn_ev (yty.enm tabP7 [mMask] 2000004) dh2A_h mixed _ none [some (.int .i64 ((i+1:Nat):Int))] [(3,(IntKind.i64.wrap ((i:Int)+1))=((i+1:Nat):Int))] 1 (fun j M=>by kernel_rfl) (A1 (wi64 (by omega)) A0) ⟨⟨by omega,hYl,by omega,hc9,by omega⟩,rfl⟩
theorem dh2f (hlt:i<32):dh2A_R [1,1,1,1,1,1,1,0,1,0,0] (dh2I k_8) .normal (fun z_=>∃(k11:Nat) (k_8:dh2I_c k_6 (i+1) (p+1) k11 (Y ++ [(Q.getD i 0)])),z_=dh2I k_8):=by
  refine rn_seq (w:= [1,1,1,1,1,1,1,0,1,0,0]) (by kernel_rfl) (dh2a hlt) ?_
  rintro _ ⟨k_9,rfl⟩
  refine rn_seq (w:= [1,1,1,1,1,1,1,0,1,0,0,1]) (by kernel_rfl) dh2d ?_
  rintro _ ⟨k11,k_11,rfl⟩
  exact(dh2e).mono fun _ ⟨k_8,e_⟩=>⟨k11,k_8,e_⟩
theorem dh2g:dh2A_R [1,1,1,1,1,1,1,0,1] (dh2I k_8) .normal (fun z_=>∃(i p c9:Nat) (Y:List Int) (k_10:dh2K_c k_6 i p c9 Y),z_=dh2K k_10):=by
  refine rn_loop (k:=0) (w:= [1,1,1,1,1,1,1,0,1]) (by kernel_rfl) (fun n_ z_=>∃(i p c9:Nat) (Y:List Int) (k_8:dh2I_c k_6 i p c9 Y),n_=32 - i∧z_=dh2I k_8) _ ⟨_,_,_,_,k_8,rfl,rfl⟩ ?_
  rintro n_ _ ⟨i,p,c9,Y,k_8,hn_,rfl⟩
  have⟨hk,hN1,ht,hN2,hl⟩:=k_1
  have⟨hX,hXb,hn,hkk,hnl⟩:=k_3
  have⟨hm,hc6,hTl⟩:=k_5
  have⟨hQ⟩:=k_6
  have⟨hY,hYl,hp,hc9,hi⟩:=k_8
  by_cases hlt:i<32
  · exact(dh2f hlt).x fun _ ⟨k11_,k_8,e_⟩=> .inl ⟨rfl,32 - (i+1),by omega,⟨_,_,_,_,k_8,rfl,e_⟩⟩
  · exact(rn_seqx (w:= [1,1,1,1,1,1,1,0,1,0,0]) (by kernel_rfl) (dh2b hlt) (by simp)).x fun _ ⟨k_10,e_⟩=> .inr ⟨rfl,⟨i,p,c9,Y,k_10,e_⟩⟩
theorem dh2h:dh2A_R [1,1,1,1,1,1,1,0] (dh2H k_7) .normal (fun z_=>∃(i1 p1 c91:Nat) (Y1:List Int) (k_10:dh2K_c k_6 i1 p1 c91 Y1),z_=dh2K k_10):=by
  refine rn_seq (w:= [1,1,1,1,1,1,1,0]) (by kernel_rfl) dh29 ?_
  rintro _ ⟨k_8,rfl⟩
  exact dh2g
structure dh2M_c (_:dh2K_c k_6 i p c9 Y) (Z:List Int):Prop where
  hZ:Z=hmac2 N1 N2
variable {Z:List Int} {k_12:dh2M_c k_10 Z}
abbrev dh2M (_:dh2M_c k_10 Z):FS:=⟨false,41,[(4,.pointer (some ⟨4,0,none⟩))],[((wA .u32 64 kL2),g0),((wA .u64 80 kL5),g1),(a1,t1),(a2,t2),((wA .u8 32 Z),(25,(0,0))),((wA .u8 k X),tk),((wA .u8 c6 ((padL X 54 64) ++ N2)),(5,(0,0))),((wA .u8 32 Q),(25,(0,0))),((wA .u8 c9 Y),(5,(0,0)))]⟩
theorem dh2i:dh2A_R [1,1,1,1,1,1,1,1] (dh2K k_10) .ret (fun z_=>∃(k_12:dh2M_c k_10 (sh2 (bL (wA .u8 c9 Y) 0 p))),z_=dh2M k_12):=by
  have⟨hk,hN1,ht,hN2,hl⟩:=id k_1
  have⟨hX,hXb,hn,hkk,hnl⟩:=id k_3
  have⟨hm,hc6,hTl⟩:=id k_5
  have⟨hQ⟩:=id k_6
  have⟨hY,hYl,hp,hc9,hi⟩:=id k_10
  exact rn_ev (yty.enm tabP7 [mMask] 2000004) dh2A_h mixed _ none [] [(2,(SrcOk .u8 [((wA .u32 64 kL2),g0),((wA .u64 80 kL5),g1),(a1,t1),(a2,t2),((wA .u8 32 []),(25,(0,0))),((wA .u8 k X),tk),((wA .u8 c6 ((padL X 54 64) ++ N2)),(5,(0,0))),((wA .u8 32 Q),(25,(0,0))),((wA .u8 c9 Y),(5,(0,0)))] (.slice (some ⟨8,0,none⟩) p c9) (bL (wA .u8 c9 Y) 0 p)∧(∃ x,[((wA .u32 64 kL2),g0),((wA .u64 80 kL5),g1),(a1,t1),(a2,t2),((wA .u8 32 []),(25,(0,0))),((wA .u8 k X),tk),((wA .u8 c6 ((padL X 54 64) ++ N2)),(5,(0,0))),((wA .u8 32 Q),(25,(0,0))),((wA .u8 c9 Y),(5,(0,0)))][0]? =some x)∧(bL (wA .u8 c9 Y) 0 p).length=p∧p≤1000000000)),(0,((wA .u8 32 (sh2 (bL (wA .u8 c9 Y) 0 p))).all (fun v=>v.oneCell')=true))] 0 (fun j M=>by kernel_rfl) (A1 ⟨src_k rfl (by omega) hc9,⟨_,rfl⟩,bL_len _ _ _,by omega⟩ (A1 (wA_one _ _ _) A0)) ⟨⟨by rw[bLk hYl hc9,hY,hi,List.take_of_length_le (by rw[hQ,sh2_len];decide),hQ,hX,← hmac2_pad]⟩,rfl⟩
theorem dh2u':dh2A_R [] (dh2A k_1) .ret (fun z_=>∃(n11 k11:Nat) (tk2:Tq) (n32 k32:Nat) (X2:List Int) (k13 n14 k14 k16 i17 p17 c917:Nat) (Y17:List Int) (k_3:dh2D_c k_1 tk2 n32 k32 X2) (k_5:dh2F_c k_3 n14 k14) (k_6:dh2G_c k_5 (sh2 (bL (wA .u8 k14 ((padL X2 54 64) ++ N2)) 0 n14))) (k_10:dh2K_c k_6 i17 p17 c917 Y17) (k_12:dh2M_c k_10 (sh2 (bL (wA .u8 c917 Y17) 0 p17))),z_=dh2M k_12):=by
  refine rn_seq (w:= []) (by kernel_rfl) dh20 ?_
  rintro _ rfl
  refine rn_seq (w:= [1]) (by kernel_rfl) dh21 ?_
  rintro _ ⟨n11,k11,k_2,rfl⟩
  refine rn_seq (w:= [1,1]) (by kernel_rfl) dh24 ?_
  rintro _ ⟨tk2,n32,k32,X2,k_3,rfl⟩
  refine rn_seq (w:= [1,1,1]) (by kernel_rfl) dh25 ?_
  rintro _ ⟨k13,k_4,rfl⟩
  refine rn_seq (w:= [1,1,1,1]) (by kernel_rfl) dh26 ?_
  rintro _ ⟨n14,k14,k_5,rfl⟩
  refine rn_seq (w:= [1,1,1,1,1]) (by kernel_rfl) dh27 ?_
  rintro _ ⟨k_6,rfl⟩
  refine rn_seq (w:= [1,1,1,1,1,1]) (by kernel_rfl) dh28 ?_
  rintro _ ⟨k16,k_7,rfl⟩
  refine rn_seq (w:= [1,1,1,1,1,1,1]) (by kernel_rfl) dh2h ?_
  rintro _ ⟨i17,p17,c917,Y17,k_10,rfl⟩
  exact(dh2i).mono fun _ ⟨k_12,e_⟩=>⟨n11,k11,tk2,n32,k32,X2,k13,n14,k14,k16,i17,p17,c917,Y17,k_3,k_5,k_6,k_10,k_12,e_⟩
abbrev dh2A_s (g0 g1 t1 t2:Tq) (a1 a2:Array Value) (b1 b2:Option Addr) (l1 c1 l2 c2:Nat) (N1 N2:List Int) (j:Nat→Value):List Value:=([.slice b1 l1 c1,.slice b2 l2 c2] ++ (JU 39))
abbrev dh2A_m (g0 g1 t1 t2:Tq) (a1 a2:Array Value) (b1 b2:Option Addr) (l1 c1 l2 c2:Nat) (N1 N2:List Int):List Mb:= [((wA .u32 64 kL2),g0),((wA .u64 80 kL5),g1),(a1,t1),(a2,t2)]
abbrev dh2M_s (g0 g1 t1 t2:Tq) (a1 a2:Array Value) (b1 b2:Option Addr) (l1 c1 l2 c2:Nat) (N1 N2:List Int) (tk:Tq) (n k:Nat) (X:List Int) (m c6:Nat) (Q:List Int) (i p c9:Nat) (Y:List Int) (Z:List Int) (j:Nat→Value):List Value:=(J j 0 4 ++ ([.pointer (some ⟨4,0,none⟩)] ++ (J j 5 36)))
abbrev dh2M_m (g0 g1 t1 t2:Tq) (a1 a2:Array Value) (b1 b2:Option Addr) (l1 c1 l2 c2:Nat) (N1 N2:List Int) (tk:Tq) (n k:Nat) (X:List Int) (m c6:Nat) (Q:List Int) (i p c9:Nat) (Y:List Int) (Z:List Int):List Mb:= [((wA .u32 64 kL2),g0),((wA .u64 80 kL5),g1),(a1,t1),(a2,t2),((wA .u8 32 Z),(25,(0,0))),((wA .u8 k X),tk),((wA .u8 c6 ((padL X 54 64) ++ N2)),(5,(0,0))),((wA .u8 32 Q),(25,(0,0))),((wA .u8 c9 Y),(5,(0,0)))]
theorem dh2u (g0 g1 t1 t2:Tq) (a1 a2:Array Value) (b1 b2:Option Addr) (l1 c1 l2 c2:Nat) (N1 N2:List Int) (j:Nat→Value) (hk:BytesOk [(wA .u32 64 kL2,g0),(wA .u64 80 kL5,g1),(a1,t1),(a2,t2)] b1 l1 c1) (hN1:bytesOf [(wA .u32 64 kL2,g0),(wA .u64 80 kL5,g1),(a1,t1),(a2,t2)] b1 l1=N1) (ht:BytesOk [(wA .u32 64 kL2,g0),(wA .u64 80 kL5,g1),(a1,t1),(a2,t2)] b2 l2 c2) (hN2:bytesOf [(wA .u32 64 kL2,g0),(wA .u64 80 kL5,g1),(a1,t1),(a2,t2)] b2 l2=N2) (hl:l1≤100000000∧l2≤100000000)  :Runs Tryd.prog (cAt [] (bdy Tryd.f19)) ⟨dh2A_s g0 g1 t1 t2 a1 a2 b1 b2 l1 c1 l2 c2 N1 N2 j,dh2A_m g0 g1 t1 t2 a1 a2 b1 b2 l1 c1 l2 c2 N1 N2,c0,ch0⟩ (fun e s=>e= .ret∧∃(n11:Nat) (k11:Nat) (tk2:Tq) (n32:Nat) (k32:Nat) (X2:List Int) (k13:Nat) (n14:Nat) (k14:Nat) (k16:Nat) (i17:Nat) (p17:Nat) (c917:Nat) (Y17:List Int),∃j c ch,(X2=key2 N1)∧(∀ x ∈ X2,0≤x∧x<256)∧(n32=X2.length)∧(n32≤k32)∧(n32≤64)∧(n14=64+l2)∧(n14≤k14)∧(N2.length=l2)∧((sh2 (bL (wA .u8 k14 ((padL X2 54 64) ++ N2)) 0 n14))=sh2 ((padL X2 54 64) ++ N2))∧(Y17=(padL X2 92 64) ++ (sh2 (bL (wA .u8 k14 ((padL X2 54 64) ++ N2)) 0 n14)).take i17)∧(Y17.length=p17)∧(p17=64+i17)∧(p17≤c917)∧(i17=32)∧((sh2 (bL (wA .u8 c917 Y17) 0 p17))=hmac2 N1 N2)∧s=⟨dh2M_s g0 g1 t1 t2 a1 a2 b1 b2 l1 c1 l2 c2 N1 N2 tk2 n32 k32 X2 n14 k14 (sh2 (bL (wA .u8 k14 ((padL X2 54 64) ++ N2)) 0 n14)) i17 p17 c917 Y17 (sh2 (bL (wA .u8 c917 Y17) 0 p17)) j,dh2M_m g0 g1 t1 t2 a1 a2 b1 b2 l1 c1 l2 c2 N1 N2 tk2 n32 k32 X2 n14 k14 (sh2 (bL (wA .u8 k14 ((padL X2 54 64) ++ N2)) 0 n14)) i17 p17 c917 Y17 (sh2 (bL (wA .u8 c917 Y17) 0 p17)),c,ch⟩) 2000004:=by
  refine(Rn.old (dh2u' (k_1:=(⟨hk,hN1,ht,hN2,hl⟩:dh2A_c g0 g1 t1 t2 a1 a2 b1 b2 l1 c1 l2 c2 N1 N2))) j (by kernel_rfl)).mono ?_
  rintro e s ⟨rfl,_,⟨n11,k11,tk2,n32,k32,X2,k13,n14,k14,k16,i17,p17,c917,Y17,k_3,k_5,k_6,k_10,k_12,rfl⟩,j,c,ch,rfl⟩
  have⟨x_hX,x_hXb,x_hn,x_hkk,x_hnl⟩:=k_3
  have⟨x_hm,x_hc6,x_hTl⟩:=k_5
  have⟨x_hQ⟩:=k_6
  have⟨x_hY,x_hYl,x_hp,x_hc9,x_hi⟩:=k_10
  have⟨x_hZ⟩:=k_12
  exact⟨rfl,n11,k11,tk2,n32,k32,X2,k13,n14,k14,k16,i17,p17,c917,Y17,j,c,ch,x_hX,x_hXb,x_hn,x_hkk,x_hnl,x_hm,x_hc6,x_hTl,x_hQ,x_hY,x_hYl,x_hp,x_hc9,x_hi,x_hZ,by kernel_rfl⟩
structure dh5A_c (g0 g1 t1 t2:Tq) (a1 a2:Array Value) (b1 b2:Option Addr) (l1 c1 l2 c2:Nat) (N1 N2:List Int):Prop where
  hk:BytesOk [(wA .u32 64 kL2,g0),(wA .u64 80 kL5,g1),(a1,t1),(a2,t2)] b1 l1 c1
  hN1:bytesOf [(wA .u32 64 kL2,g0),(wA .u64 80 kL5,g1),(a1,t1),(a2,t2)] b1 l1=N1
  ht:BytesOk [(wA .u32 64 kL2,g0),(wA .u64 80 kL5,g1),(a1,t1),(a2,t2)] b2 l2 c2
  hN2:bytesOf [(wA .u32 64 kL2,g0),(wA .u64 80 kL5,g1),(a1,t1),(a2,t2)] b2 l2=N2
  hl:l1≤100000000∧l2≤100000000
variable {k_13:dh5A_c g0 g1 t1 t2 a1 a2 b1 b2 l1 c1 l2 c2 N1 N2}
structure dh5C_c (_:dh5A_c g0 g1 t1 t2 a1 a2 b1 b2 l1 c1 l2 c2 N1 N2) (n k:Nat):Prop where
  hn:n=l1
  hkk:n≤k
  hNl:N1.length=l1
variable {k_14:dh5C_c k_13 n k}
structure dh5D_c (_:dh5A_c g0 g1 t1 t2 a1 a2 b1 b2 l1 c1 l2 c2 N1 N2) (tk:Tq) (n k:Nat) (X:List Int):Prop where
  hX:X=key5 N1
  hXb:∀ x ∈ X,0≤x∧x<256
  hn:n=X.length
  hkk:n≤k
  hnl:n≤128
variable {k_15:dh5D_c k_13 tk n k X}
structure dh5E_c (_:dh5D_c k_13 tk n k X) (c6:Nat):Prop where
  hc6:128≤c6
variable {k_16:dh5E_c k_15 c6}
structure dh5F_c (_:dh5D_c k_13 tk n k X) (m c6:Nat):Prop where
  hm:m=128+l2
  hc6:m≤c6
  hTl:N2.length=l2
variable {k_17:dh5F_c k_15 m c6}
structure dh5G_c (_:dh5F_c k_15 m c6) (Q:List Int):Prop where
  hQ:Q=sh5 ((padL X 54 128) ++ N2)
variable {k_18:dh5G_c k_17 Q}
structure dh5H_c (_:dh5G_c k_17 Q) (i p c9:Nat) (Y:List Int):Prop where
  hY:Y=(padL X 92 128) ++ Q.take i
  hYl:Y.length=p
  hp:p=128+i
  hc9:p≤c9
  hi:i=0
variable {k_19:dh5H_c k_18 i p c9 Y}
structure dh5I_c (_:dh5G_c k_17 Q) (i p c9:Nat) (Y:List Int):Prop where
  hY:Y=(padL X 92 128) ++ Q.take i
  hYl:Y.length=p
  hp:p=128+i
  hc9:p≤c9
  hi:i≤64
variable {k_20:dh5I_c k_18 i p c9 Y}
structure dh5J_c (_:dh5G_c k_17 Q) (i p c9:Nat) (Y:List Int):Prop where
  hY:Y=(padL X 92 128) ++ Q.take i
  hYl:Y.length=p
  hp:p=128+i
  hc9:p≤c9
  hi:i<64
variable {k_21:dh5J_c k_18 i p c9 Y}
structure dh5K_c (_:dh5G_c k_17 Q) (i p c9:Nat) (Y:List Int):Prop where
  hY:Y=(padL X 92 128) ++ Q.take i
  hYl:Y.length=p
  hp:p=128+i
  hc9:p≤c9
  hi:i=64
variable {k_22:dh5K_c k_18 i p c9 Y}
structure dh5L_c (_:dh5G_c k_17 Q) (i p c9:Nat) (Y:List Int):Prop where
  hY:Y=(padL X 92 128) ++ Q.take (i+1)
  hYl:Y.length=p
  hp:p=128+(i+1)
  hc9:p≤c9
  hi:i<64
variable {k_23:dh5L_c k_18 i p c9 Y}
structure dh5M_c (_:dh5K_c k_18 i p c9 Y) (Z:List Int):Prop where
  hZ:Z=hmac5 N1 N2
variable {k_24:dh5M_c k_22 Z}
end Go.Proofs.YtcfnjcacdmkgbaaDoor

set_option linter.unusedSimpArgs false
set_option linter.unusedVariables false
/-! The document's HMAC: contracts; Extract; the same bytes with one more behind. -/
namespace Go.Proofs.YtcfnjcacdmkgbaaDoor
open Go.RowKit Go.Ev
variable {c0:Prop} {ch0:List (Option Value)}
theorem DH2_c (g0 g1 t1 t2:Tq) (a1 a2:Array Value) (b1 b2:Option Addr) (l1 c1 l2 c2:Nat) (hk:BytesOk [(wA .u32 64 kL2,g0),(wA .u64 80 kL5,g1),(a1,t1),(a2,t2)] b1 l1 c1) (ht:BytesOk [(wA .u32 64 kL2,g0),(wA .u64 80 kL5,g1),(a1,t1),(a2,t2)] b2 l2 c2) (hl:l1≤100000000∧l2≤100000000):Reads Tryd.prog 19 [(wA .u32 64 kL2,g0),(wA .u64 80 kL5,g1),(a1,t1),(a2,t2)] [.slice b1 l1 c1,.slice b2 l2 c2] (.agg (wA .u8 32 (hmac2 (bytesOf [(wA .u32 64 kL2,g0),(wA .u64 80 kL5,g1),(a1,t1),(a2,t2)] b1 l1) (bytesOf [(wA .u32 64 kL2,g0),(wA .u64 80 kL5,g1),(a1,t1),(a2,t2)] b2 l2)))) 2:=by
  refine reads_runs (fk:=2000004) (yty.enm tabP7 [mMask] 2000004) Tryd.func19 (c:=bdy Tryd.f19) (by kernel_rfl) ⟨len4 _ _ _ _,by decide⟩ (args:= [.slice b1 l1 c1,.slice b2 l2 c2]) (by show(Go.Ev.okp 4 (.slice b1 l1 c1) && (Go.Ev.okp 4 (.slice b2 l2 c2) && true))=true;rw[show Go.Ev.okp 4 (.slice b1 l1 c1)=true from hk.okp,show Go.Ev.okp 4 (.slice b2 l2 c2)=true from ht.okp];rfl) (K:=fun e s=>e= .ret∧resS (yty.enm tabP7 [mMask] 2000004) s Tryd.f19.results.toList=some [.agg (wA .u8 32 (hmac2 (bytesOf [(wA .u32 64 kL2,g0),(wA .u64 80 kL5,g1),(a1,t1),(a2,t2)] b1 l1) (bytesOf [(wA .u32 64 kL2,g0),(wA .u64 80 kL5,g1),(a1,t1),(a2,t2)] b2 l2)))]) ?_ (fun e s h=>⟨h.1,_,h.2,rfl⟩)
  generalize h1:bytesOf [(wA .u32 64 kL2,g0),(wA .u64 80 kL5,g1),(a1,t1),(a2,t2)] b1 l1=N1
  generalize h2:bytesOf [(wA .u32 64 kL2,g0),(wA .u64 80 kL5,g1),(a1,t1),(a2,t2)] b2 l2=N2
  refine(dh2u g0 g1 t1 t2 a1 a2 b1 b2 l1 c1 l2 c2 N1 N2 (fun _=>undef) hk h1 ht h2 hl).mono ?_
  rintro e s ⟨rfl,hh⟩
  obtain⟨n11,k11,tk2,n32,k32,X2,k13,n14,k14,k16,i17,p17,c917,Y17,j,c,ch,q1,q2,q3,q4,q5,q6,q7,q8,q9,q10,q11,q12,q13,q14,q15,rfl⟩:=hh
  rw[← q15]
  exact⟨rfl,by kernel_rfl⟩
def pDh2 : Entry Tryd.prog where
  f:=19
  ng:=2
  g := fun mem xs => match xs with
    | [.slice bp l cp, .slice bq m cq] => (match mem[0]?, mem[1]? with
      |some (x0,_),some (x1,_)=>some (.agg (wA .u8 32 (hmac2 (bytesOf mem bp l) (bytesOf mem bq m))),(x0=wA .u32 64 kL2∧x1=wA .u64 80 kL5∧BytesOk mem bp l cp∧BytesOk mem bq m cq∧l≤100000000∧m≤100000000))
      |_,_=>none)
    |_=>none
  ok := fun mem xs v c e hc w β hw hg => by
    split at e
    · rename_i bp l cp bq m cq
      split at e
      · rename_i x0 g0 x1 g1 h0 h1
        simp only[Option.some.injEq,Prod.mk.injEq] at e
        obtain⟨rfl,rfl⟩:=e
        obtain⟨rfl,rfl,hB,hC,hl,hm⟩:=hc
        refine lift2 (post:= []) rfl hB hC h0 h1 (fun y z q r h2 h3 h4 h5=> ?_) hw (hg 0 (by decide)) (hg 1 (by decide))
        rw[← h3,← h5]
        exact DH2_c g0 g1 y.2 z.2 y.1 z.1 q r l cp m cq h2 h4 ⟨hl,hm⟩
      · cases e
    · cases e
  call:=call_of Tryd.func19 (by kernel_rfl) (by kernel_rfl)
def tabM4:List (Entry Tryd.prog):=pDh2 :: tabM3
structure exA_c (g0 g1 t1 t2:Tq) (a1 a2:Array Value) (b1 b2:Option Addr) (l1 c1 l2 c2:Nat) (N1 N2:List Int):Prop where
  hk:BytesOk [(wA .u32 64 kL2,g0),(wA .u64 80 kL5,g1),(a1,t1),(a2,t2)] b1 l1 c1
  hN1:bytesOf [(wA .u32 64 kL2,g0),(wA .u64 80 kL5,g1),(a1,t1),(a2,t2)] b1 l1=N1
  ht:BytesOk [(wA .u32 64 kL2,g0),(wA .u64 80 kL5,g1),(a1,t1),(a2,t2)] b2 l2 c2
  hN2:bytesOf [(wA .u32 64 kL2,g0),(wA .u64 80 kL5,g1),(a1,t1),(a2,t2)] b2 l2=N2
  hl:l1≤100000000∧l2≤100000000
variable {g0 g1 t1 t2:Tq} {a1 a2:Array Value} {b1 b2:Option Addr} {l1 c1 l2 c2:Nat} {N1 N2:List Int} {k_1:exA_c g0 g1 t1 t2 a1 a2 b1 b2 l1 c1 l2 c2 N1 N2}
structure exC_c (_:exA_c g0 g1 t1 t2 a1 a2 b1 b2 l1 c1 l2 c2 N1 N2) (Z:List Int):Prop where
  hZ:Z=hmac2 N1 N2
variable {Z:List Int} {k_2:exC_c k_1 Z}
structure dxA_c (g0 g1 t1 t2:Tq) (a1 a2:Array Value) (b1 b2:Option Addr) (l1 c1 l2 c2:Nat) (N1 N2:List Int):Prop where
  hk:BytesOk [(wA .u32 64 kL2,g0),(wA .u64 80 kL5,g1),(a1,t1),(a2,t2)] b1 l1 c1
  hN1:bytesOf [(wA .u32 64 kL2,g0),(wA .u64 80 kL5,g1),(a1,t1),(a2,t2)] b1 l1=N1
  ht:BytesOk [(wA .u32 64 kL2,g0),(wA .u64 80 kL5,g1),(a1,t1),(a2,t2)] b2 l2 c2
  hN2:bytesOf [(wA .u32 64 kL2,g0),(wA .u64 80 kL5,g1),(a1,t1),(a2,t2)] b2 l2=N2
  hl:l1≤100000000∧l2≤100000000
variable {k_3:dxA_c g0 g1 t1 t2 a1 a2 b1 b2 l1 c1 l2 c2 N1 N2}
structure dxC_c (_:dxA_c g0 g1 t1 t2 a1 a2 b1 b2 l1 c1 l2 c2 N1 N2) (Z:List Int):Prop where
  hZ:Z=hmac2 N1 N2
variable {k_4:dxC_c k_3 Z}
def le7sA_h (i:Nat):Hn:=⟨0,[],[],[],[]⟩
abbrev le7sA_R (w:List Nat) (S:FS) (e:Exit) (K:FS→Prop):Prop:=Rn Tryd.prog (cAt w (bdy Tryd.f14)) S e K 1
structure le7sA_c (a:Array Value) (t:Tq) (o l cp:Nat) (N:List Int):Prop where
  hu:SrcOk .u8 [(a,t)] (.slice (some ⟨0,o,none⟩) l cp) N
  hN:N.length=l
  hl:l≤1000000000
variable {a:Array Value} {t:Tq} {o l cp:Nat} {N:List Int} {k_1:le7sA_c a t o l cp N}
abbrev le7sA (_:le7sA_c a t o l cp N):FS:=⟨true,11,[(0,.slice (some ⟨0,o,none⟩) l cp)],[(a,t)]⟩
abbrev le7sB (_:le7sA_c a t o l cp N):FS:=⟨false,11,[(0,.slice (some ⟨0,o,none⟩) l cp)],[(a,t)]⟩
theorem le7s0:le7sA_R [0] (le7sA k_1) .normal (fun z_=>z_=le7sB k_1):=rn_ev (yty.enf tab0 1) le7sA_h mixed _ none [] [] 1 (fun j M=>by kernel_rfl) A0 rfl
structure le7sC_c (_:le7sA_c a t o l cp N) (k2:Nat):Prop where
  hk:l+1≤k2
variable {k2:Nat} {k_2:le7sC_c k_1 k2}
abbrev le7sC (_:le7sC_c k_1 k2):FS:=⟨false,11,[(2,.slice (some ⟨1,(if k2=0 then 0 else 0+0*1),none⟩) l k2)],[(a,t),((wA .u8 k2 (N ++ [77])),(5,(0,0))),((wA .u8 1 [77]),(5,(0,0)))]⟩
theorem le7s1:le7sA_R [1,0] (le7sB k_1) .normal (fun z_=>∃(k2:Nat) (k_2:le7sC_c k_1 k2),z_=le7sC k_2):=by
  have⟨hu,hN,hl⟩:=id k_1
  refine rn_reg none (by kernel_rfl) fun j c0 ch0=> ?_
  refine rl_app (yty.enf tab0 1) apB apB.ht 2 [] [] 1 [(a,t),((wA .u8 0 []),(5,(0,0)))] 1 0 0 ([]:List Int) N (.slice (some ⟨0,o,none⟩) l cp) (some 5) (by kernel_rfl) A0 rfl (by simp) (SrcOk.app (x:= [_]) hu) (by simp only[List.length_nil];omega) fun n1 k1 M1 c1_ e1_ hn1 hk1=> ?_
  try simp only[zL] at hn1
  refine rl_app (yty.enf tab0 1) apB apB.ht 1 [] [] 0 [(a,t),((wA .u8 k1 (([]:List Int) ++ N)),(5,(0,0))),((wA .u8 1 [77]),(5,(0,0)))] 1 n1 k1 N ([77]:List Int) (.slice (some ⟨2,0,none⟩) 1 1) (some 7) (by kernel_rfl) A0 (by omega) (by omega) (src_wA (i:=2) rfl rfl (by decide)) (by simp only[List.length_cons,List.length_nil];omega) fun n2 k2 M2 c2_ e2_ hn2 hk2=> ?_
  try simp only[zL] at hn2
  exact rl_end (E:=(yty.enf tab0 1)) _ [] [(4,((True∧(0≤(l:Int)))∧0≤l∧l≤k2))] 1 (fun M=>by kernel_rfl) (A1 (by refine⟨⟨?_,?_⟩,?_,?_⟩<;>first|trivial|omega) A0) ⟨k2,⟨by omega⟩,rfl⟩
theorem le7s2:le7sA_R [1,1] (le7sC k_2) .ret (fun z_=>z_=le7sC k_2):=rn_ev (yty.enf tab0 1) le7sA_h mixed _ none [] [] 0 (fun j M=>by kernel_rfl) A0 rfl
theorem le7su':le7sA_R [] (le7sA k_1) .ret (fun z_=>∃(k21:Nat) (k_2:le7sC_c k_1 k21),z_=le7sC k_2):=by
  refine rn_seq (w:= []) (by kernel_rfl) le7s0 ?_
  rintro _ rfl
  refine rn_seq (w:= [1]) (by kernel_rfl) le7s1 ?_
  rintro _ ⟨k21,k_2,rfl⟩
  exact(le7s2).mono fun _ e_=>⟨k21,k_2,e_⟩
abbrev le7sA_s (a:Array Value) (t:Tq) (o l cp:Nat) (N:List Int) (j:Nat→Value):List Value:=([.slice (some ⟨0,o,none⟩) l cp] ++ (JU 10))
abbrev le7sA_m (a:Array Value) (t:Tq) (o l cp:Nat) (N:List Int):List Mb:= [(a,t)]
abbrev le7sC_s (a:Array Value) (t:Tq) (o l cp:Nat) (N:List Int) (k2:Nat) (j:Nat→Value):List Value:=([j 0,j 1,.slice (some ⟨1,(if k2=0 then 0 else 0+0*1),none⟩) l k2] ++ (J j 3 8))
abbrev le7sC_m (a:Array Value) (t:Tq) (o l cp:Nat) (N:List Int) (k2:Nat):List Mb:= [(a,t),((wA .u8 k2 (N ++ [77])),(5,(0,0))),((wA .u8 1 [77]),(5,(0,0)))]
theorem le7su (a:Array Value) (t:Tq) (o l cp:Nat) (N:List Int) (j:Nat→Value) (hu:SrcOk .u8 [(a,t)] (.slice (some ⟨0,o,none⟩) l cp) N) (hN:N.length=l) (hl:l≤1000000000)  :Runs Tryd.prog (cAt [] (bdy Tryd.f14)) ⟨le7sA_s a t o l cp N j,le7sA_m a t o l cp N,c0,ch0⟩ (fun e s=>e= .ret∧∃(k21:Nat),∃j c ch,(l+1≤k21)∧s=⟨le7sC_s a t o l cp N k21 j,le7sC_m a t o l cp N k21,c,ch⟩) 1:=by
  refine(Rn.old (le7su' (k_1:=(⟨hu,hN,hl⟩:le7sA_c a t o l cp N))) j (by kernel_rfl)).mono ?_
  rintro e s ⟨rfl,_,⟨k21,k_2,rfl⟩,j,c,ch,rfl⟩
  have⟨x_hk⟩:=k_2
  exact⟨rfl,k21,j,c,ch,x_hk,by kernel_rfl⟩
def le7nA_h (i:Nat):Hn:=⟨0,[],[],[],[]⟩
abbrev le7nA_R (w:List Nat) (S:FS) (e:Exit) (K:FS→Prop):Prop:=Rn Tryd.prog (cAt w (bdy Tryd.f14)) S e K 0
structure le7nA_c (N:List Int):Prop where
  hN:N= []
variable {N:List Int} {k_1:le7nA_c N}
abbrev le7nA (_:le7nA_c N):FS:=⟨true,11,[(0,.slice none 0 0)],[]⟩
abbrev le7nB (_:le7nA_c N):FS:=⟨false,11,[(0,.slice none 0 0)],[]⟩
theorem le7n0:le7nA_R [0] (le7nA k_1) .normal (fun z_=>z_=le7nB k_1):=rn_ev (yty.en tab0) le7nA_h mixed _ none [] [] 1 (fun j M=>by kernel_rfl) A0 rfl
structure le7nC_c (_:le7nA_c N) (k2:Nat):Prop where
  hk:0+1≤k2
variable {k2:Nat} {k_2:le7nC_c k_1 k2}
abbrev le7nC (_:le7nC_c k_1 k2):FS:=⟨false,11,[(2,.slice (some ⟨0,(if k2=0 then 0 else 0+0*1),none⟩) 0 k2)],[((wA .u8 k2 (N ++ [77])),(5,(0,0))),((wA .u8 1 [77]),(5,(0,0)))]⟩
theorem le7n1:le7nA_R [1,0] (le7nB k_1) .normal (fun z_=>∃(k2:Nat) (k_2:le7nC_c k_1 k2),z_=le7nC k_2):=by
  have⟨hN⟩:=id k_1
  have hNl:N.length=0:=by rw[hN];rfl
  refine rn_reg none (by kernel_rfl) fun j c0 ch0=> ?_
  refine rl_app (yty.en tab0) apB apB.ht 2 [] [] 1 [((wA .u8 0 []),(5,(0,0)))] 0 0 0 ([]:List Int) N (.slice none 0 0) (some 5) (by kernel_rfl) A0 rfl (by simp) (by subst hN;exact src_nil) (by rw[hN];decide) fun n1 k1 M1 c1_ e1_ hn1 hk1=> ?_
  try simp only[zL] at hn1
  refine rl_app (yty.en tab0) apB apB.ht 1 [] [] 0 [((wA .u8 k1 (([]:List Int) ++ N)),(5,(0,0))),((wA .u8 1 [77]),(5,(0,0)))] 0 n1 k1 N ([77]:List Int) (.slice (some ⟨1,0,none⟩) 1 1) (some 7) (by kernel_rfl) A0 (by rw[hn1,hN];rfl) (by omega) (src_wA (i:=1) rfl rfl (by decide)) (by rw[hN];decide) fun n2 k2 M2 c2_ e2_ hn2 hk2=> ?_
  try simp only[zL] at hn2
  exact rl_end (E:=(yty.en tab0)) _ [] [(4,((True∧((0:Int)≤0))∧0≤0∧0≤k2))] 1 (fun M=>by kernel_rfl) (A1 (by refine⟨⟨?_,?_⟩,?_,?_⟩<;>first|trivial|omega) A0) ⟨k2,⟨by rw[hN] at hn2;simp at hn2;omega⟩,rfl⟩
theorem le7n2:le7nA_R [1,1] (le7nC k_2) .ret (fun z_=>z_=le7nC k_2):=rn_ev (yty.en tab0) le7nA_h mixed _ none [] [] 0 (fun j M=>by kernel_rfl) A0 rfl
theorem le7nu':le7nA_R [] (le7nA k_1) .ret (fun z_=>∃(k21:Nat) (k_2:le7nC_c k_1 k21),z_=le7nC k_2):=by
  refine rn_seq (w:= []) (by kernel_rfl) le7n0 ?_
  rintro _ rfl
  refine rn_seq (w:= [1]) (by kernel_rfl) le7n1 ?_
  rintro _ ⟨k21,k_2,rfl⟩
  exact(le7n2).mono fun _ e_=>⟨k21,k_2,e_⟩
abbrev le7nA_s (N:List Int) (j:Nat→Value):List Value:=([.slice none 0 0] ++ (JU 10))
abbrev le7nA_m (N:List Int):List Mb:= []
abbrev le7nC_s (N:List Int) (k2:Nat) (j:Nat→Value):List Value:=([j 0,j 1,.slice (some ⟨0,(if k2=0 then 0 else 0+0*1),none⟩) 0 k2] ++ (J j 3 8))
abbrev le7nC_m (N:List Int) (k2:Nat):List Mb:= [((wA .u8 k2 (N ++ [77])),(5,(0,0))),((wA .u8 1 [77]),(5,(0,0)))]
theorem le7nu (N:List Int) (j:Nat→Value) (hN:N= [])  :Runs Tryd.prog (cAt [] (bdy Tryd.f14)) ⟨le7nA_s N j,le7nA_m N,c0,ch0⟩ (fun e s=>e= .ret∧∃(k21:Nat),∃j c ch,(0+1≤k21)∧s=⟨le7nC_s N k21 j,le7nC_m N k21,c,ch⟩) 0:=by
  refine(Rn.old (le7nu' (k_1:=(⟨hN⟩:le7nA_c N))) j (by kernel_rfl)).mono ?_
  rintro e s ⟨rfl,_,⟨k21,k_2,rfl⟩,j,c,ch,rfl⟩
  have⟨x_hk⟩:=k_2
  exact⟨rfl,k21,j,c,ch,x_hk,by kernel_rfl⟩
theorem le7_some (a:Array Value) (t:Tq) (o l cp:Nat) (N:List Int) (hu:SrcOk .u8 [(a,t)] (.slice (some ⟨0,o,none⟩) l cp) N) (hN:N.length=l) (hl:l≤1000000000):MakesA Tryd.prog 14 [(a,t)] [.slice (some ⟨0,o,none⟩) l cp] .u8 l (N ++ [77]) 5:=by
  refine makesA_runs (fk:=1) Tryd.func14 (c:=bdy Tryd.f14) (by kernel_rfl) ⟨rfl,by decide⟩ (args:= [.slice (some ⟨0,o,none⟩) l cp]) rfl (r:=2) (by kernel_rfl) (le7su a t o l cp N (fun _=>undef) hu hN hl) ?_
  rintro e s ⟨rfl,k2,j,c,ch,hk,rfl⟩
  have hz:(if k2=0 then 0 else 0+0*1)=0:=by split<;>rfl
  refine⟨rfl,1,k2,by decide,by simp only[List.length_append,List.length_cons,List.length_nil];omega,?_,rfl⟩
  show Value.slice (some ⟨1,(if k2=0 then 0 else 0+0*1),none⟩) l k2=_
  rw[hz]
theorem le7_nil:MakesA Tryd.prog 14 [] [.slice none 0 0] .u8 0 ([] ++ [77]) 5:=by
  refine makesA_runs (fk:=0) Tryd.func14 (c:=bdy Tryd.f14) (by kernel_rfl) ⟨rfl,by decide⟩ (args:= [.slice none 0 0]) rfl (r:=2) (by kernel_rfl) (le7nu [] (fun _=>undef) rfl) ?_
  rintro e s ⟨rfl,k2,j,c,ch,hk,rfl⟩
  have hz:(if k2=0 then 0 else 0+0*1)=0:=by split<;>rfl
  refine⟨rfl,0,k2,by decide,by simp only[List.length_append,List.length_cons,List.length_nil];omega,?_,rfl⟩
  show Value.slice (some ⟨0,(if k2=0 then 0 else 0+0*1),none⟩) 0 k2=_
  rw[hz]
theorem le7_c {mem:List Mb} {bp:Option Addr} {l cp ng:Nat} {N:List Int} (hu:SrcOk .u8 mem (.slice bp l cp) N) (hN:N.length=l) (hl:l≤1000000000):MakesA Tryd.prog 14 mem [.slice bp l cp] .u8 l (N ++ [77]) 5 ng:=
  makesA_lift1 hu (fun a t o h=>le7_some a t o l cp N h hN hl) (fun e=>by subst e;have:l=0:=hN.symm;subst this;exact le7_nil)
def tabM5:List (Entry Tryd.prog):=tabM4
end Go.Proofs.YtcfnjcacdmkgbaaDoor

set_option linter.unusedSimpArgs false
set_option linter.unusedVariables false
/-! MacHmac's law: a text is kept. -/
namespace Go.Proofs.YtcfnjcacdmkgbaaDoor
open Go.RowKit Go.Ev
variable {c0:Prop} {ch0:List (Option Value)}
def kpsA_h (i:Nat):Hn:=⟨0,[],[],[],[]⟩
abbrev kpsA_R (w:List Nat) (S:FS) (e:Exit) (K:FS→Prop):Prop:=Rn Tryd.prog (cAt w (bdy Tryd.f18)) S e K 2
structure kpsA_c (t1 t2:Tq) (a:Array Value) (o l cp c3:Nat):Prop where
  hb:bytesAt a o l
  hz:o+l≤a.size
  hcp:l≤cp
  hl:l≤100000000
  hc3:l+1≤c3
variable {t1 t2:Tq} {a:Array Value} {o l cp c3:Nat} {k_1:kpsA_c t1 t2 a o l cp c3}
abbrev kpsA (_:kpsA_c t1 t2 a o l cp c3):FS:=⟨true,22,[(0,.slice (some ⟨0,0,none⟩) l c3),(1,.slice (some ⟨1,o,none⟩) l cp)],[((wA .u8 c3 ((bL a o l) ++ [77])),t1),(a,t2)]⟩
abbrev kpsB (_:kpsA_c t1 t2 a o l cp c3):FS:=⟨false,22,[(0,.slice (some ⟨0,0,none⟩) l c3),(1,.slice (some ⟨1,o,none⟩) l cp),(4,.bool false)],[((wA .u8 c3 ((bL a o l) ++ [77])),t1),(a,t2)]⟩
theorem kps0:kpsA_R [0] (kpsA k_1) .normal (fun z_=>z_=kpsB k_1):=rn_ev (yty.enf tabM5 2) kpsA_h mixed _ none [] [] 1 (fun j M=>by kernel_rfl) A0 rfl
abbrev kpsC (_:kpsA_c t1 t2 a o l cp c3):FS:=⟨false,22,[(4,.bool true)],[((wA .u8 c3 ((bL a o l) ++ [77])),t1),(a,t2)]⟩
theorem kps1:kpsA_R [1] (kpsB k_1) .ret (fun z_=>z_=kpsC k_1):=by
  have⟨hb,hz,hcp,hl,hc3⟩:=id k_1
  exact rn_ev (yty.enf tabM5 2) kpsA_h mixed _ none [some (.bool true),some (.int .i64 ((l+1:Nat):Int)),some (.int .u8 77),some (.bool true)] [(2,(((wA .u8 c3 ((bL a o l) ++ [77])).extract 0 (0+l)).all isB8=true∧0+l≤(wA .u8 c3 ((bL a o l) ++ [77])).size)),(2,((a.extract o (o+l)).all isB8=true∧o+l≤a.size)),(1,(((bstr ((wA .u8 c3 ((bL a o l) ++ [77])).extract 0 (0+l)))).toList == ((bstr (a.extract o (o+l)))).toList)=true),(9,(IntKind.i64.wrap ((l:Int)+1))=((l+1:Nat):Int)),(0,((True∧(0≤((l+1:Nat):Int)))∧0≤(l+1)∧(l+1)≤c3)),(4,((0:Int)≤(l:Int)∧((l:Int):Int)<(((l+1):Nat):Int))),(0,(((wA .u8 c3 ((bL a o l) ++ [77]))[((if c3=0 then 0 else 0+0*1)+Int.toNat (l:Int)*1)]? =some (.int .u8 77))∧(77:Int)=77)),(1,true=true)] 2 (fun j M=>by kernel_rfl) (A1 ⟨b8_ext (lentb hb hc3) (by rw[wA_size];omega),by rw[wA_size];omega⟩ (A1 ⟨b8_ext hb hz,hz⟩ (A1 (by rw[ext_bL (lentb hb hc3) (by rw[wA_size];omega),(lent_bL hb hc3),ext_bL hb hz];exact beq_self_eq_true _) (A1 (wi64 (by omega)) (A1 (by refine⟨⟨?_,?_⟩,?_,?_⟩<;>first|trivial|omega) (A1 (by(try simp only[Int.toNat_natCast,wA_size]);omega) (A1 ⟨(at77 (bL_len a o l) hc3 (by split<;>omega)),rfl⟩ (A1 (by first|rfl|assumption) A0)))))))) rfl
theorem kpsu':kpsA_R [] (kpsA k_1) .ret (fun z_=>z_=kpsC k_1):=by
  refine rn_seq (w:= []) (by kernel_rfl) kps0 ?_
  rintro _ rfl
  exact kps1
abbrev kpsA_s (t1 t2:Tq) (a:Array Value) (o l cp c3:Nat) (j:Nat→Value):List Value:=([.slice (some ⟨0,0,none⟩) l c3,.slice (some ⟨1,o,none⟩) l cp] ++ (JU 20))
abbrev kpsA_m (t1 t2:Tq) (a:Array Value) (o l cp c3:Nat):List Mb:= [((wA .u8 c3 ((bL a o l) ++ [77])),t1),(a,t2)]
abbrev kpsC_s (t1 t2:Tq) (a:Array Value) (o l cp c3:Nat) (j:Nat→Value):List Value:=(J j 0 4 ++ ([.bool true] ++ (J j 5 17)))
abbrev kpsC_m (t1 t2:Tq) (a:Array Value) (o l cp c3:Nat):List Mb:= [((wA .u8 c3 ((bL a o l) ++ [77])),t1),(a,t2)]
theorem kpsu (t1 t2:Tq) (a:Array Value) (o l cp c3:Nat) (j:Nat→Value) (hb:bytesAt a o l) (hz:o+l≤a.size) (hcp:l≤cp) (hl:l≤100000000) (hc3:l+1≤c3)  :Runs Tryd.prog (cAt [] (bdy Tryd.f18)) ⟨kpsA_s t1 t2 a o l cp c3 j,kpsA_m t1 t2 a o l cp c3,c0,ch0⟩ (fun e s=>e= .ret∧∃j c ch,s=⟨kpsC_s t1 t2 a o l cp c3 j,kpsC_m t1 t2 a o l cp c3,c,ch⟩) 2:=by
  refine(Rn.old (kpsu' (k_1:=(⟨hb,hz,hcp,hl,hc3⟩:kpsA_c t1 t2 a o l cp c3))) j (by kernel_rfl)).mono ?_
  rintro e s ⟨rfl,_,rfl,j,c,ch,rfl⟩
  exact⟨rfl,j,c,ch,by kernel_rfl⟩
def kpnA_h (i:Nat):Hn:=⟨0,[],[],[],[]⟩
abbrev kpnA_R (w:List Nat) (S:FS) (e:Exit) (K:FS→Prop):Prop:=Rn Tryd.prog (cAt w (bdy Tryd.f18)) S e K 1
structure kpnA_c (t1:Tq) (c3:Nat):Prop where
  hc3:0+1≤c3
variable {k_2:kpnA_c t1 c3}
abbrev kpnA (_:kpnA_c t1 c3):FS:=⟨true,22,[(0,.slice (some ⟨0,0,none⟩) 0 c3),(1,.slice none 0 0)],[((wA .u8 c3 (([]:List Int) ++ [77])),t1)]⟩
abbrev kpnB (_:kpnA_c t1 c3):FS:=⟨false,22,[(0,.slice (some ⟨0,0,none⟩) 0 c3),(1,.slice none 0 0),(4,.bool false)],[((wA .u8 c3 (([]:List Int) ++ [77])),t1)]⟩
theorem kpn0:kpnA_R [0] (kpnA k_2) .normal (fun z_=>z_=kpnB k_2):=rn_ev (yty.enf tabM5 1) kpnA_h mixed _ none [] [] 1 (fun j M=>by kernel_rfl) A0 rfl
abbrev kpnC (_:kpnA_c t1 c3):FS:=⟨false,22,[(4,.bool true)],[((wA .u8 c3 (([]:List Int) ++ [77])),t1)]⟩
theorem kpn1:kpnA_R [1] (kpnB k_2) .ret (fun z_=>z_=kpnC k_2):=by
  have⟨hc3⟩:=id k_2
  exact rn_ev (yty.enf tabM5 1) kpnA_h mixed _ none [some (.bool true),none,some (.int .u8 77),some (.bool true)] [(2,(((wA .u8 c3 (([]:List Int) ++ [77])).extract 0 (0+0)).all isB8=true∧0+0≤(wA .u8 c3 (([]:List Int) ++ [77])).size)),(5,(((bstr ((wA .u8 c3 (([]:List Int) ++ [77])).extract 0 (0+0)))).toList == ((bstr #[])).toList)=true),(10,((True∧((0:Int)≤1))∧0≤1∧1≤c3)),(4,bdN 0 1),(0,(((wA .u8 c3 (([]:List Int) ++ [77]))[((if c3=0 then 0 else 0+0*1)+0)]? =some (.int .u8 77))∧(77:Int)=77)),(1,true=true)] 2 (fun j M=>by kernel_rfl) (A1 ⟨b8_ext (lentb (a:= #[]) (o:=0) (l:=0) (fun j h=>by omega) hc3) (by rw[wA_size];omega),by rw[wA_size];omega⟩ (A1 (by rw[show(wA .u8 c3 (([]:List Int) ++ [77])).extract 0 (0+0)= #[] from by simp];exact beq_self_eq_true _) (A1 (by refine⟨⟨?_,?_⟩,?_,?_⟩<;>first|trivial|omega) (A1 (bdd rfl) (A1 ⟨(at77 (N:= []) rfl hc3 (by split<;>rfl)),rfl⟩ (A1 (by first|rfl|assumption) A0)))))) rfl
theorem kpnu':kpnA_R [] (kpnA k_2) .ret (fun z_=>z_=kpnC k_2):=by
  refine rn_seq (w:= []) (by kernel_rfl) kpn0 ?_
  rintro _ rfl
  exact kpn1
abbrev kpnA_s (t1:Tq) (c3:Nat) (j:Nat→Value):List Value:=([.slice (some ⟨0,0,none⟩) 0 c3,.slice none 0 0] ++ (JU 20))
abbrev kpnA_m (t1:Tq) (c3:Nat):List Mb:= [((wA .u8 c3 (([]:List Int) ++ [77])),t1)]
abbrev kpnC_s (t1:Tq) (c3:Nat) (j:Nat→Value):List Value:=(J j 0 4 ++ ([.bool true] ++ (J j 5 17)))
abbrev kpnC_m (t1:Tq) (c3:Nat):List Mb:= [((wA .u8 c3 (([]:List Int) ++ [77])),t1)]
theorem kpnu (t1:Tq) (c3:Nat) (j:Nat→Value) (hc3:0+1≤c3)  :Runs Tryd.prog (cAt [] (bdy Tryd.f18)) ⟨kpnA_s t1 c3 j,kpnA_m t1 c3,c0,ch0⟩ (fun e s=>e= .ret∧∃j c ch,s=⟨kpnC_s t1 c3 j,kpnC_m t1 c3,c,ch⟩) 1:=by
  refine(Rn.old (kpnu' (k_2:=(⟨hc3⟩:kpnA_c t1 c3))) j (by kernel_rfl)).mono ?_
  rintro e s ⟨rfl,_,rfl,j,c,ch,rfl⟩
  exact⟨rfl,j,c,ch,by kernel_rfl⟩
theorem kps_c (t1 t2:Tq) (a:Array Value) (o l cp c3:Nat) (hb:bytesAt a o l) (hz:o+l≤a.size) (hcp:l≤cp) (hl:l≤100000000) (hc3:l+1≤c3):Reads Tryd.prog 18 [(wA .u8 c3 (bL a o l ++ [77]),t1),(a,t2)] [.slice (some ⟨0,0,none⟩) l c3,.slice (some ⟨1,o,none⟩) l cp] (.bool true):=by
  refine reads_runs (fk:=2) (yty.enf tabM5 2) Tryd.func18 (c:=bdy Tryd.f18) (by kernel_rfl) ⟨by kernel_rfl,by decide⟩ (args:= [.slice (some ⟨0,0,none⟩) l c3,.slice (some ⟨1,o,none⟩) l cp]) (by kernel_rfl) (K:=fun e s=>e= .ret∧resS (yty.enf tabM5 2) s Tryd.f18.results.toList=some [.bool true]) ?_ (fun e s h=>⟨h.1,_,h.2,rfl⟩)
  refine(kpsu t1 t2 a o l cp c3 (fun _=>undef) hb hz hcp hl hc3).mono ?_
  rintro e s ⟨rfl,j,c,ch,rfl⟩
  exact⟨rfl,by kernel_rfl⟩
theorem kpn_c (t1:Tq) (c3:Nat) (hc3:0+1≤c3):Reads Tryd.prog 18 [(wA .u8 c3 (([]:List Int) ++ [77]),t1)] [.slice (some ⟨0,0,none⟩) 0 c3,.slice none 0 0] (.bool true):=by
  refine reads_runs (fk:=1) (yty.enf tabM5 1) Tryd.func18 (c:=bdy Tryd.f18) (by kernel_rfl) ⟨by kernel_rfl,by decide⟩ (args:= [.slice (some ⟨0,0,none⟩) 0 c3,.slice none 0 0]) (by kernel_rfl) (K:=fun e s=>e= .ret∧resS (yty.enf tabM5 1) s Tryd.f18.results.toList=some [.bool true]) ?_ (fun e s h=>⟨h.1,_,h.2,rfl⟩)
  refine(kpnu t1 c3 (fun _=>undef) hc3).mono ?_
  rintro e s ⟨rfl,j,c,ch,rfl⟩
  exact⟨rfl,by kernel_rfl⟩
def pKept : Entry Tryd.prog where
  f:=18
  g := fun mem xs => match xs with
    | [.slice (some ⟨i, 0, none⟩) l k, .slice bq m cq] => (match mem[i]? with
      |some (x,_)=>some (.bool true,(x=wA .u8 k (bytesOf mem bq m ++ [77])∧l=m∧BytesOk mem bq m cq∧m≤100000000∧m+1≤k))
      |_=>none)
    |_=>none
  ok := fun mem xs v c e hc w β hw hg => by
    split at e
    · rename_i i l k bq m cq
      split at e
      · rename_i x t1 hx
        simp only[Option.some.injEq,Prod.mk.injEq] at e
        obtain⟨rfl,rfl⟩:=e
        obtain⟨rfl,rfl,hB,hl,hk⟩:=hc
        rcases hB with⟨rfl,rfl,rfl⟩|⟨i2,o,src,st,rfl,hm,hb,hz,hcp⟩
        · exact kpn_c t1 k hk w (fun _=>β i) (fun j y hy=>by
            match j,hy with
            |0,hy=>cases hy;exact hw i _ hx
            |j+1,hy=>simp at hy) (fun j hj=>absurd hj (Nat.not_lt_zero _))
        · have e1 : bytesOf mem (some ⟨i2, o, none⟩) l = bL src o l := by simp only [bytesOf, hm]
          rw[e1] at hx
          exact kps_c t1 st src o l cq k hb hz hcp hl hk w (fun j=>if j=0 then β i else β i2) (fun j y hy=>by
            match j,hy with
            |0,hy=>cases hy;exact hw i _ hx
            |1,hy=>cases hy;exact hw i2 _ hm
            |j+2,hy=>simp at hy) (fun j hj=>absurd hj (Nat.not_lt_zero _))
      · cases e
    · cases e
  call:=call_of Tryd.func18 (by kernel_rfl) (by kernel_rfl)
def tabM6:List (Entry Tryd.prog):=pKept :: tabM5
end Go.Proofs.YtcfnjcacdmkgbaaDoor
