import Derived.Test.YthldpfindbhkeaaZSPvalSiI1
import Derived.Test.YthldpfindbhkeaaZSPvalAeX1
import Derived.Test.YthldpfindbhkeaaZSPvalSiE1
set_option linter.unusedSimpArgs false
set_option linter.unusedVariables false
/-! siv: the bytes are lent, and kept. -/
namespace Go.Proofs.Ythldpfindbhkeaa
open Go.RowKit Go.Ev
theorem src_app9 {q:IntKind} {mem x:List Mb} {u:Value} {N:List Int} (h:SrcOk q mem u N):SrcOk q (mem ++ x) u N:=by
  rcases h.h with h|⟨j,p,c,src,st,h1,h2,h3⟩
  · exact⟨.inl h⟩
  · exact⟨.inr ⟨j,p,c,src,st,h1,by rw[List.getElem?_append_left (List.getElem?_eq_some_iff.1 h2).1];exact h2,h3⟩⟩
theorem makesA_lift1q {P : Program} {f : FuncId} {n ng : Nat} {L : List Int} {e : TypeId} {mem : List Mb} {bp : Option Addr} {l cp : Nat} {N : List Int} (hu : SrcOk .u8 mem (.slice bp l cp) N) (hS : ∀ a t o, SrcOk .u8 [(a, t)] (.slice (some ⟨0, o, none⟩) l cp) N → MakesA P f [(a, t)] [.slice (some ⟨0, o, none⟩) l cp] .u8 n L e) (hNil : N = [] → MakesA P f [] [.slice none 0 0] .u8 n L e) : MakesA P f mem [.slice bp l cp] .u8 n L e ng := fun w β hw hg => by
  rcases hu.h with⟨h1,h2⟩|⟨j,p,c,src,st,h1,h2,h3,h4⟩
  · cases h1
    exact hNil h2 w β (fun i x hx=>by simp at hx) (fun i hi=>by omega)
  · cases h1
    exact hS src st p ⟨.inr ⟨0,p,cp,src,st,rfl,rfl,h3,h4⟩⟩ w (fun _=>β j) (fun i x hx=>by
      cases i with
      | zero =>
        simp only[List.getElem?_cons_zero,Option.some.injEq] at hx
        subst hx
        exact hw j _ h2
      |succ i=>simp at hx) (fun i hi=>by omega)
theorem lentbq {a:Array Value} {o l c:Nat} (hb:bytesAt a o l) (hc:l+1≤c):bytesAt (wA .u8 c (bL a o l ++ [77])) 0 l:=fun j hj=>by
  rw[Nat.zero_add]
  have e:iat (wA .u8 c (bL a o l ++ [77])) j=iat a (o+j):=by
    unfold iat
    rw[wA_at (by omega),getD_app,bL_len,if_pos hj,bL_at,if_pos hj]
    rfl
  have h:=hb j hj
  rw[e]
  refine⟨?_,h.2⟩
  rw[wA_at (by omega),getD_app,bL_len,if_pos hj,bL_at,if_pos hj]
theorem lent_bLq {a:Array Value} {o l c:Nat} (hb:bytesAt a o l) (hc:l+1≤c):bL (wA .u8 c (bL a o l ++ [77])) 0 l=bL a o l:=by
  unfold bL
  apply List.map_congr_left
  intro j hj
  have hj:j<l:=by simpa using hj
  rw[Nat.zero_add]
  have e:iat (wA .u8 c (bL a o l ++ [77])) j=iat a (o+j):=by
    unfold iat
    rw[wA_at (by omega),getD_app,bL_len,if_pos hj,bL_at,if_pos hj]
    rfl
  exact e
theorem ext_bLq {a:Array Value} {o l:Nat} (hb:bytesAt a o l) (hz:o+l≤a.size):a.extract o (o+l)=(Go.Ev.iv .u8 (bL a o l)).toArray:=by
  rcases(src_b (mem:= [(a,(0,0,0))]) (i:=0) (c:=l) rfl hb hz).h with⟨h,_⟩|⟨j,p,c,src,st,h1,h2,h3,h4⟩
  · cases h
  · rw [bL_len] at h1 h4
    cases h1
    cases h2
    exact h4
theorem b8_extq {a:Array Value} {o l:Nat} (hb:bytesAt a o l) (hz:o+l≤a.size):(a.extract o (o+l)).all isB8=true:=by
  rw[ext_bLq hb hz]
  rw[Array.all_eq_true']
  intro v hv
  have hv:v ∈ Go.Ev.iv .u8 (bL a o l):=by simpa using hv
  obtain⟨x,hx,rfl⟩:=List.mem_map.1 hv
  obtain⟨j,hj,rfl⟩:=List.mem_map.1 hx
  have hj:j<l:=by simpa using hj
  have:=(hb j hj).2
  simp[isB8,this.1,this.2]
theorem at77q {N:List Int} {l c p:Nat} (hN:N.length=l) (hc:l+1≤c) (hp:p=l):(wA .u8 c (N ++ [77]))[p]? =some (.int .u8 77):=by
  subst hp
  rw[wA_at (by omega),getD_app,if_neg (by omega),hN,Nat.sub_self];rfl
def le9sA_h (i:Nat):Hn:=⟨0,[],[],[],[]⟩
abbrev le9sA_R (w:List Nat) (S:FS) (e:Exit) (K:FS→Prop):Prop:=Rn Try.prog (cAt w (bdy Try.f12)) S e K 1
structure le9sA_c (a:Array Value) (t:Tq) (o l cp:Nat) (N:List Int):Prop where
  hu:SrcOk .u8 [(a,t)] (.slice (some ⟨0,o,none⟩) l cp) N
  hN:N.length=l
  hl:l≤1000000000
variable {a:Array Value} {t:Tq} {o l cp:Nat} {N:List Int} {k_1:le9sA_c a t o l cp N}
abbrev le9sA (_:le9sA_c a t o l cp N):FS:=⟨true,11,[(0,.slice (some ⟨0,o,none⟩) l cp)],[(a,t)]⟩
abbrev le9sB (_:le9sA_c a t o l cp N):FS:=⟨false,11,[(0,.slice (some ⟨0,o,none⟩) l cp)],[(a,t)]⟩
theorem le9s0:le9sA_R [0] (le9sA k_1) .normal (fun z_=>z_=le9sB k_1):=by
  exact rn_ev (yty.enf tab0 1) le9sA_h mixed _ none [] [] 1 (fun j M=>by kernel_rfl) A0 rfl
structure le9sC_c (_:le9sA_c a t o l cp N) (k2:Nat):Prop where
  hk:l+1≤k2
variable {k2:Nat} {k_2:le9sC_c k_1 k2}
abbrev le9sC (_:le9sC_c k_1 k2):FS:=⟨false,11,[(2,.slice (some ⟨1,(if k2=0 then 0 else 0+0*1),none⟩) l k2)],[(a,t),((wA .u8 k2 (N ++ [77])),(5,(0,0))),((wA .u8 1 [77]),(5,(0,0)))]⟩
theorem le9s1:le9sA_R [1,0] (le9sB k_1) .normal (fun z_=>∃(k2:Nat) (k_2:le9sC_c k_1 k2),z_=le9sC k_2):=by
  have⟨hu,hN,hl⟩:=id k_1
  refine rn_reg none (by kernel_rfl) fun j c0 ch0=> ?_
  refine rl_app (yty.enf tab0 1) apY apY.ht 2 [] [] 1 [(a,t),((wA .u8 0 []),(5,(0,0)))] 1 0 0 ([]:List Int) N (.slice (some ⟨0,o,none⟩) l cp) (some 5) (by kernel_rfl) A0 rfl (by simp) (src_app9 (x:= [_]) hu) (by simp only[List.length_nil];omega) fun n1 k1 M1 c1_ e1_ hn1 hk1=> ?_
  try simp only[zL] at hn1
  refine rl_app (yty.enf tab0 1) apY apY.ht 1 [] [] 0 [(a,t),((wA .u8 k1 (([]:List Int) ++ N)),(5,(0,0))),((wA .u8 1 [77]),(5,(0,0)))] 1 n1 k1 N ([77]:List Int) (.slice (some ⟨2,0,none⟩) 1 1) (some 7) (by kernel_rfl) A0 (by omega) (by omega) (src_wA (i:=2) rfl rfl (by decide)) (by simp only[List.length_cons,List.length_nil];omega) fun n2 k2 M2 c2_ e2_ hn2 hk2=> ?_
  try simp only[zL] at hn2
  exact rl_end (E:=(yty.enf tab0 1)) _ [] [(4,((True∧(0≤((l:Nat):Int)))∧0≤l∧l≤k2))] 1 (fun M=>by kernel_rfl) (A1 (by refine⟨⟨?_,?_⟩,?_,?_⟩<;>first|trivial|omega) A0) ⟨k2,⟨by omega⟩,rfl⟩
theorem le9s2:le9sA_R [1,1] (le9sC k_2) .ret (fun z_=>z_=le9sC k_2):=by
  exact rn_ev (yty.enf tab0 1) le9sA_h mixed _ none [] [] 0 (fun j M=>by kernel_rfl) A0 rfl
theorem le9su':le9sA_R [] (le9sA k_1) .ret (fun z_=>∃(k21:Nat) (k_2:le9sC_c k_1 k21),z_=le9sC k_2):=by
  refine rn_seq (w:= []) (by kernel_rfl) le9s0 ?_
  rintro _ rfl
  refine rn_seq (w:= [1]) (by kernel_rfl) le9s1 ?_
  rintro _ ⟨k21,k_2,rfl⟩
  exact(le9s2).mono fun _ e_=>⟨k21,k_2,e_⟩
abbrev le9sA_s (a:Array Value) (t:Tq) (o l cp:Nat) (N:List Int) (j:Nat→Value):List Value:=([.slice (some ⟨0,o,none⟩) l cp] ++ (JU 10))
abbrev le9sA_m (a:Array Value) (t:Tq) (o l cp:Nat) (N:List Int):List Mb:= [(a,t)]
abbrev le9sC_s (a:Array Value) (t:Tq) (o l cp:Nat) (N:List Int) (k2:Nat) (j:Nat→Value):List Value:=([j 0,j 1,.slice (some ⟨1,(if k2=0 then 0 else 0+0*1),none⟩) l k2] ++ (J j 3 8))
abbrev le9sC_m (a:Array Value) (t:Tq) (o l cp:Nat) (N:List Int) (k2:Nat):List Mb:= [(a,t),((wA .u8 k2 (N ++ [77])),(5,(0,0))),((wA .u8 1 [77]),(5,(0,0)))]
theorem le9su (a:Array Value) (t:Tq) (o l cp:Nat) (N:List Int) (j:Nat→Value) (hu:SrcOk .u8 [(a,t)] (.slice (some ⟨0,o,none⟩) l cp) N) (hN:N.length=l) (hl:l≤1000000000)  {c0:Prop} {ch0:List (Option Value)}:Runs Try.prog (cAt [] (bdy Try.f12)) ⟨le9sA_s a t o l cp N j,le9sA_m a t o l cp N,c0,ch0⟩ (fun e s=>e= .ret∧∃(k21:Nat) (j:Nat→Value) (c:Prop) (ch:List (Option Value)),(l+1≤k21)∧s=⟨le9sC_s a t o l cp N k21 j,le9sC_m a t o l cp N k21,c,ch⟩) 1:=by
  refine(Rn.old (le9su' (k_1:=(⟨hu,hN,hl⟩:le9sA_c a t o l cp N))) j (by kernel_rfl)).mono ?_
  rintro e s ⟨rfl,_,⟨k21,k_2,rfl⟩,j,c,ch,rfl⟩
  have⟨x_hk⟩:=k_2
  exact⟨rfl,k21,j,c,ch,x_hk,by kernel_rfl⟩
def le9nA_h (i:Nat):Hn:=⟨0,[],[],[],[]⟩
abbrev le9nA_R (w:List Nat) (S:FS) (e:Exit) (K:FS→Prop):Prop:=Rn Try.prog (cAt w (bdy Try.f12)) S e K 0
structure le9nA_c (N:List Int):Prop where
  hN:N= []
variable {N:List Int} {k_1:le9nA_c N}
abbrev le9nA (_:le9nA_c N):FS:=⟨true,11,[(0,.slice none 0 0)],[]⟩
abbrev le9nB (_:le9nA_c N):FS:=⟨false,11,[(0,.slice none 0 0)],[]⟩
theorem le9n0:le9nA_R [0] (le9nA k_1) .normal (fun z_=>z_=le9nB k_1):=by
  exact rn_ev (yty.en tab0) le9nA_h mixed _ none [] [] 1 (fun j M=>by kernel_rfl) A0 rfl
structure le9nC_c (_:le9nA_c N) (k2:Nat):Prop where
  hk:0+1≤k2
variable {k2:Nat} {k_2:le9nC_c k_1 k2}
abbrev le9nC (_:le9nC_c k_1 k2):FS:=⟨false,11,[(2,.slice (some ⟨0,(if k2=0 then 0 else 0+0*1),none⟩) 0 k2)],[((wA .u8 k2 (N ++ [77])),(5,(0,0))),((wA .u8 1 [77]),(5,(0,0)))]⟩
theorem le9n1:le9nA_R [1,0] (le9nB k_1) .normal (fun z_=>∃(k2:Nat) (k_2:le9nC_c k_1 k2),z_=le9nC k_2):=by
  have⟨hN⟩:=id k_1
  have hNl:N.length=0:=by rw[hN];rfl
  refine rn_reg none (by kernel_rfl) fun j c0 ch0=> ?_
  refine rl_app (yty.en tab0) apY apY.ht 2 [] [] 1 [((wA .u8 0 []),(5,(0,0)))] 0 0 0 ([]:List Int) N (.slice none 0 0) (some 5) (by kernel_rfl) A0 rfl (by simp) (by subst hN;exact src_nil) (by rw[hN];decide) fun n1 k1 M1 c1_ e1_ hn1 hk1=> ?_
  try simp only[zL] at hn1
  refine rl_app (yty.en tab0) apY apY.ht 1 [] [] 0 [((wA .u8 k1 (([]:List Int) ++ N)),(5,(0,0))),((wA .u8 1 [77]),(5,(0,0)))] 0 n1 k1 N ([77]:List Int) (.slice (some ⟨1,0,none⟩) 1 1) (some 7) (by kernel_rfl) A0 (by rw[hn1,hN];rfl) (by omega) (src_wA (i:=1) rfl rfl (by decide)) (by rw[hN];decide) fun n2 k2 M2 c2_ e2_ hn2 hk2=> ?_
  try simp only[zL] at hn2
  exact rl_end (E:=(yty.en tab0)) _ [] [(4,((True∧((0:Int)≤0))∧0≤0∧0≤k2))] 1 (fun M=>by kernel_rfl) (A1 (by refine⟨⟨?_,?_⟩,?_,?_⟩<;>first|trivial|omega) A0) ⟨k2,⟨by rw[hN] at hn2;simp at hn2;omega⟩,rfl⟩
theorem le9n2:le9nA_R [1,1] (le9nC k_2) .ret (fun z_=>z_=le9nC k_2):=by
  exact rn_ev (yty.en tab0) le9nA_h mixed _ none [] [] 0 (fun j M=>by kernel_rfl) A0 rfl
theorem le9nu':le9nA_R [] (le9nA k_1) .ret (fun z_=>∃(k21:Nat) (k_2:le9nC_c k_1 k21),z_=le9nC k_2):=by
  refine rn_seq (w:= []) (by kernel_rfl) le9n0 ?_
  rintro _ rfl
  refine rn_seq (w:= [1]) (by kernel_rfl) le9n1 ?_
  rintro _ ⟨k21,k_2,rfl⟩
  exact(le9n2).mono fun _ e_=>⟨k21,k_2,e_⟩
abbrev le9nA_s (N:List Int) (j:Nat→Value):List Value:=([.slice none 0 0] ++ (JU 10))
abbrev le9nA_m (N:List Int):List Mb:= []
abbrev le9nC_s (N:List Int) (k2:Nat) (j:Nat→Value):List Value:=([j 0,j 1,.slice (some ⟨0,(if k2=0 then 0 else 0+0*1),none⟩) 0 k2] ++ (J j 3 8))
abbrev le9nC_m (N:List Int) (k2:Nat):List Mb:= [((wA .u8 k2 (N ++ [77])),(5,(0,0))),((wA .u8 1 [77]),(5,(0,0)))]
theorem le9nu (N:List Int) (j:Nat→Value) (hN:N= [])  {c0:Prop} {ch0:List (Option Value)}:Runs Try.prog (cAt [] (bdy Try.f12)) ⟨le9nA_s N j,le9nA_m N,c0,ch0⟩ (fun e s=>e= .ret∧∃(k21:Nat) (j:Nat→Value) (c:Prop) (ch:List (Option Value)),(0+1≤k21)∧s=⟨le9nC_s N k21 j,le9nC_m N k21,c,ch⟩) 0:=by
  refine(Rn.old (le9nu' (k_1:=(⟨hN⟩:le9nA_c N))) j (by kernel_rfl)).mono ?_
  rintro e s ⟨rfl,_,⟨k21,k_2,rfl⟩,j,c,ch,rfl⟩
  have⟨x_hk⟩:=k_2
  exact⟨rfl,k21,j,c,ch,x_hk,by kernel_rfl⟩
theorem le9_some (a:Array Value) (t:Tq) (o l cp:Nat) (N:List Int) (hu:SrcOk .u8 [(a,t)] (.slice (some ⟨0,o,none⟩) l cp) N) (hN:N.length=l) (hl:l≤1000000000):MakesA Try.prog 12 [(a,t)] [.slice (some ⟨0,o,none⟩) l cp] .u8 l (N ++ [77]) 5:=by
  refine makesA_runs (fk:=1) Try.func12 (c:=bdy Try.f12) (by kernel_rfl) ⟨rfl,by decide⟩ (args:= [.slice (some ⟨0,o,none⟩) l cp]) rfl (r:=2) (by kernel_rfl) (le9su a t o l cp N (fun _=>undef) hu hN hl) ?_
  rintro e s ⟨rfl,k2,j,c,ch,hk,rfl⟩
  have hz:(if k2=0 then 0 else 0+0*1)=0:=by split<;>rfl
  refine⟨rfl,1,k2,by decide,by simp only[List.length_append,List.length_cons,List.length_nil];omega,?_,rfl⟩
  show Value.slice (some ⟨1,(if k2=0 then 0 else 0+0*1),none⟩) l k2=_
  rw[hz]
theorem le9_nil:MakesA Try.prog 12 [] [.slice none 0 0] .u8 0 ([] ++ [77]) 5:=by
  refine makesA_runs (fk:=0) Try.func12 (c:=bdy Try.f12) (by kernel_rfl) ⟨rfl,by decide⟩ (args:= [.slice none 0 0]) rfl (r:=2) (by kernel_rfl) (le9nu [] (fun _=>undef) rfl) ?_
  rintro e s ⟨rfl,k2,j,c,ch,hk,rfl⟩
  have hz:(if k2=0 then 0 else 0+0*1)=0:=by split<;>rfl
  refine⟨rfl,0,k2,by decide,by simp only[List.length_append,List.length_cons,List.length_nil];omega,?_,rfl⟩
  show Value.slice (some ⟨0,(if k2=0 then 0 else 0+0*1),none⟩) 0 k2=_
  rw[hz]
theorem le9_c {mem:List Mb} {bp:Option Addr} {l cp ng:Nat} {N:List Int} (hu:SrcOk .u8 mem (.slice bp l cp) N) (hN:N.length=l) (hl:l≤1000000000):MakesA Try.prog 12 mem [.slice bp l cp] .u8 l (N ++ [77]) 5 ng:=
  makesA_lift1q hu (fun a t o h=>le9_some a t o l cp N h hN hl) (fun e=>by subst e;have:l=0:=hN.symm;subst this;exact le9_nil)
def kpsqA_h (i:Nat):Hn:=⟨0,[],[],[],[]⟩
abbrev kpsqA_R (w:List Nat) (S:FS) (e:Exit) (K:FS→Prop):Prop:=Rn Try.prog (cAt w (bdy Try.f16)) S e K 2
structure kpsqA_c (t1 t2:Tq) (a:Array Value) (o l cp c3:Nat):Prop where
  hb:bytesAt a o l
  hz:o+l≤a.size
  hcp:l≤cp
  hl:l≤100000000
  hc3:l+1≤c3
variable {t1 t2:Tq} {a:Array Value} {o l cp c3:Nat} {k_1:kpsqA_c t1 t2 a o l cp c3}
abbrev kpsqA (_:kpsqA_c t1 t2 a o l cp c3):FS:=⟨true,22,[(0,.slice (some ⟨0,0,none⟩) l c3),(1,.slice (some ⟨1,o,none⟩) l cp)],[((wA .u8 c3 ((bL a o l) ++ [77])),t1),(a,t2)]⟩
abbrev kpsqB (_:kpsqA_c t1 t2 a o l cp c3):FS:=⟨false,22,[(0,.slice (some ⟨0,0,none⟩) l c3),(1,.slice (some ⟨1,o,none⟩) l cp),(4,.bool false)],[((wA .u8 c3 ((bL a o l) ++ [77])),t1),(a,t2)]⟩
theorem kpsq0:kpsqA_R [0] (kpsqA k_1) .normal (fun z_=>z_=kpsqB k_1):=by
  exact rn_ev (yty.enf tabV0 2) kpsqA_h mixed _ none [] [] 1 (fun j M=>by kernel_rfl) A0 rfl
abbrev kpsqC (_:kpsqA_c t1 t2 a o l cp c3):FS:=⟨false,22,[(4,.bool true)],[((wA .u8 c3 ((bL a o l) ++ [77])),t1),(a,t2)]⟩
theorem kpsq1:kpsqA_R [1] (kpsqB k_1) .ret (fun z_=>z_=kpsqC k_1):=by
  have⟨hb,hz,hcp,hl,hc3⟩:=id k_1
  exact rn_ev (yty.enf tabV0 2) kpsqA_h mixed _ none [some (.bool true),some (.int .i64 ((l+1:Nat):Int)),some (.int .u8 77),some (.bool true)] [(2,(((wA .u8 c3 ((bL a o l) ++ [77])).extract 0 (0+l)).all isB8=true∧0+l≤(wA .u8 c3 ((bL a o l) ++ [77])).size)),(2,((a.extract o (o+l)).all isB8=true∧o+l≤a.size)),(1,(((bstr ((wA .u8 c3 ((bL a o l) ++ [77])).extract 0 (0+l)))).toList == ((bstr (a.extract o (o+l)))).toList)=true),(9,(IntKind.i64.wrap (((l:Nat):Int)+1))=((l+1:Nat):Int)),(0,((True∧(0≤((l+1:Nat):Int)))∧0≤(l+1)∧(l+1)≤c3)),(4,((0:Int)≤((l:Nat):Int)∧(((l:Nat):Int):Int)<(((l+1):Nat):Int))),(0,(((wA .u8 c3 ((bL a o l) ++ [77]))[((if c3=0 then 0 else 0+0*1)+Int.toNat ((l:Nat):Int)*1)]? =some (.int .u8 77))∧(77:Int)=77)),(1,true=true)] 2 (fun j M=>by kernel_rfl) (A1 ⟨b8_extq (lentbq hb hc3) (by rw[wA_size];omega),by rw[wA_size];omega⟩ (A1 ⟨b8_extq hb hz,hz⟩ (A1 (by rw[ext_bLq (lentbq hb hc3) (by rw[wA_size];omega),(lent_bLq hb hc3),ext_bLq hb hz];exact beq_self_eq_true _) (A1 (wi64 (by omega)) (A1 (by refine⟨⟨?_,?_⟩,?_,?_⟩<;>first|trivial|omega) (A1 (by(try simp only[Int.toNat_natCast,wA_size]);omega) (A1 ⟨(at77q (bL_len a o l) hc3 (by split<;>omega)),rfl⟩ (A1 (by first|rfl|assumption) A0)))))))) rfl
theorem kpsuq':kpsqA_R [] (kpsqA k_1) .ret (fun z_=>z_=kpsqC k_1):=by
  refine rn_seq (w:= []) (by kernel_rfl) kpsq0 ?_
  rintro _ rfl
  exact kpsq1
abbrev kpsqA_s (t1 t2:Tq) (a:Array Value) (o l cp c3:Nat) (j:Nat→Value):List Value:=([.slice (some ⟨0,0,none⟩) l c3,.slice (some ⟨1,o,none⟩) l cp] ++ (JU 20))
abbrev kpsqA_m (t1 t2:Tq) (a:Array Value) (o l cp c3:Nat):List Mb:= [((wA .u8 c3 ((bL a o l) ++ [77])),t1),(a,t2)]
abbrev kpsqC_s (t1 t2:Tq) (a:Array Value) (o l cp c3:Nat) (j:Nat→Value):List Value:=(J j 0 4 ++ ([.bool true] ++ (J j 5 17)))
abbrev kpsqC_m (t1 t2:Tq) (a:Array Value) (o l cp c3:Nat):List Mb:= [((wA .u8 c3 ((bL a o l) ++ [77])),t1),(a,t2)]
theorem kpsuq (t1 t2:Tq) (a:Array Value) (o l cp c3:Nat) (j:Nat→Value) (hb:bytesAt a o l) (hz:o+l≤a.size) (hcp:l≤cp) (hl:l≤100000000) (hc3:l+1≤c3)  {c0:Prop} {ch0:List (Option Value)}:Runs Try.prog (cAt [] (bdy Try.f16)) ⟨kpsqA_s t1 t2 a o l cp c3 j,kpsqA_m t1 t2 a o l cp c3,c0,ch0⟩ (fun e s=>e= .ret∧∃(j:Nat→Value) (c:Prop) (ch:List (Option Value)),s=⟨kpsqC_s t1 t2 a o l cp c3 j,kpsqC_m t1 t2 a o l cp c3,c,ch⟩) 2:=by
  refine(Rn.old (kpsuq' (k_1:=(⟨hb,hz,hcp,hl,hc3⟩:kpsqA_c t1 t2 a o l cp c3))) j (by kernel_rfl)).mono ?_
  rintro e s ⟨rfl,_,rfl,j,c,ch,rfl⟩
  exact⟨rfl,j,c,ch,by kernel_rfl⟩
def kpnqA_h (i:Nat):Hn:=⟨0,[],[],[],[]⟩
abbrev kpnqA_R (w:List Nat) (S:FS) (e:Exit) (K:FS→Prop):Prop:=Rn Try.prog (cAt w (bdy Try.f16)) S e K 1
structure kpnqA_c (t1:Tq) (c3:Nat):Prop where
  hc3:0+1≤c3
variable {k_2:kpnqA_c t1 c3}
abbrev kpnqA (_:kpnqA_c t1 c3):FS:=⟨true,22,[(0,.slice (some ⟨0,0,none⟩) 0 c3),(1,.slice none 0 0)],[((wA .u8 c3 (([]:List Int) ++ [77])),t1)]⟩
abbrev kpnqB (_:kpnqA_c t1 c3):FS:=⟨false,22,[(0,.slice (some ⟨0,0,none⟩) 0 c3),(1,.slice none 0 0),(4,.bool false)],[((wA .u8 c3 (([]:List Int) ++ [77])),t1)]⟩
theorem kpnq0:kpnqA_R [0] (kpnqA k_2) .normal (fun z_=>z_=kpnqB k_2):=by
  exact rn_ev (yty.enf tabV0 1) kpnqA_h mixed _ none [] [] 1 (fun j M=>by kernel_rfl) A0 rfl
abbrev kpnqC (_:kpnqA_c t1 c3):FS:=⟨false,22,[(4,.bool true)],[((wA .u8 c3 (([]:List Int) ++ [77])),t1)]⟩
theorem kpnq1:kpnqA_R [1] (kpnqB k_2) .ret (fun z_=>z_=kpnqC k_2):=by
  have⟨hc3⟩:=id k_2
  exact rn_ev (yty.enf tabV0 1) kpnqA_h mixed _ none [some (.bool true),none,some (.int .u8 77),some (.bool true)] [(2,(((wA .u8 c3 (([]:List Int) ++ [77])).extract 0 (0+0)).all isB8=true∧0+0≤(wA .u8 c3 (([]:List Int) ++ [77])).size)),(5,(((bstr ((wA .u8 c3 (([]:List Int) ++ [77])).extract 0 (0+0)))).toList == ((bstr #[])).toList)=true),(10,((True∧((0:Int)≤1))∧0≤1∧1≤c3)),(4,bdN 0 1),(0,(((wA .u8 c3 (([]:List Int) ++ [77]))[((if c3=0 then 0 else 0+0*1)+0)]? =some (.int .u8 77))∧(77:Int)=77)),(1,true=true)] 2 (fun j M=>by kernel_rfl) (A1 ⟨b8_extq (lentbq (a:= #[]) (o:=0) (l:=0) (fun j h=>by omega) hc3) (by rw[wA_size];omega),by rw[wA_size];omega⟩ (A1 (by rw[show(wA .u8 c3 (([]:List Int) ++ [77])).extract 0 (0+0)= #[] from by simp];exact beq_self_eq_true _) (A1 (by refine⟨⟨?_,?_⟩,?_,?_⟩<;>first|trivial|omega) (A1 (bdd rfl) (A1 ⟨(at77q (N:= []) rfl hc3 (by split<;>rfl)),rfl⟩ (A1 (by first|rfl|assumption) A0)))))) rfl
theorem kpnuq':kpnqA_R [] (kpnqA k_2) .ret (fun z_=>z_=kpnqC k_2):=by
  refine rn_seq (w:= []) (by kernel_rfl) kpnq0 ?_
  rintro _ rfl
  exact kpnq1
abbrev kpnqA_s (t1:Tq) (c3:Nat) (j:Nat→Value):List Value:=([.slice (some ⟨0,0,none⟩) 0 c3,.slice none 0 0] ++ (JU 20))
abbrev kpnqA_m (t1:Tq) (c3:Nat):List Mb:= [((wA .u8 c3 (([]:List Int) ++ [77])),t1)]
abbrev kpnqC_s (t1:Tq) (c3:Nat) (j:Nat→Value):List Value:=(J j 0 4 ++ ([.bool true] ++ (J j 5 17)))
abbrev kpnqC_m (t1:Tq) (c3:Nat):List Mb:= [((wA .u8 c3 (([]:List Int) ++ [77])),t1)]
theorem kpnuq (t1:Tq) (c3:Nat) (j:Nat→Value) (hc3:0+1≤c3)  {c0:Prop} {ch0:List (Option Value)}:Runs Try.prog (cAt [] (bdy Try.f16)) ⟨kpnqA_s t1 c3 j,kpnqA_m t1 c3,c0,ch0⟩ (fun e s=>e= .ret∧∃(j:Nat→Value) (c:Prop) (ch:List (Option Value)),s=⟨kpnqC_s t1 c3 j,kpnqC_m t1 c3,c,ch⟩) 1:=by
  refine(Rn.old (kpnuq' (k_2:=(⟨hc3⟩:kpnqA_c t1 c3))) j (by kernel_rfl)).mono ?_
  rintro e s ⟨rfl,_,rfl,j,c,ch,rfl⟩
  exact⟨rfl,j,c,ch,by kernel_rfl⟩
theorem kps_cq (t1 t2:Tq) (a:Array Value) (o l cp c3:Nat) (hb:bytesAt a o l) (hz:o+l≤a.size) (hcp:l≤cp) (hl:l≤100000000) (hc3:l+1≤c3):Reads Try.prog 16 [(wA .u8 c3 (bL a o l ++ [77]),t1),(a,t2)] [.slice (some ⟨0,0,none⟩) l c3,.slice (some ⟨1,o,none⟩) l cp] (.bool true):=by
  refine reads_runs (fk:=2) (yty.enf tabV0 2) Try.func16 (c:=bdy Try.f16) (by kernel_rfl) ⟨by kernel_rfl,by decide⟩ (args:= [.slice (some ⟨0,0,none⟩) l c3,.slice (some ⟨1,o,none⟩) l cp]) (by kernel_rfl) (K:=fun e s=>e= .ret∧resS (yty.enf tabV0 2) s Try.f16.results.toList=some [.bool true]) ?_ (fun e s h=>⟨h.1,_,h.2,rfl⟩)
  refine(kpsuq t1 t2 a o l cp c3 (fun _=>undef) hb hz hcp hl hc3).mono ?_
  rintro e s ⟨rfl,j,c,ch,rfl⟩
  exact⟨rfl,by kernel_rfl⟩
theorem kpn_cq (t1:Tq) (c3:Nat) (hc3:0+1≤c3):Reads Try.prog 16 [(wA .u8 c3 (([]:List Int) ++ [77]),t1)] [.slice (some ⟨0,0,none⟩) 0 c3,.slice none 0 0] (.bool true):=by
  refine reads_runs (fk:=1) (yty.enf tabV0 1) Try.func16 (c:=bdy Try.f16) (by kernel_rfl) ⟨by kernel_rfl,by decide⟩ (args:= [.slice (some ⟨0,0,none⟩) 0 c3,.slice none 0 0]) (by kernel_rfl) (K:=fun e s=>e= .ret∧resS (yty.enf tabV0 1) s Try.f16.results.toList=some [.bool true]) ?_ (fun e s h=>⟨h.1,_,h.2,rfl⟩)
  refine(kpnuq t1 c3 (fun _=>undef) hc3).mono ?_
  rintro e s ⟨rfl,j,c,ch,rfl⟩
  exact⟨rfl,by kernel_rfl⟩
theorem BkOk.src {mem:List Mb} {bp:Option Addr} {r q:Nat} (h:BkOk mem bp r q):SrcOk .u8 mem (.slice bp r q) (bOf mem bp r):=by
  obtain⟨_,⟨rfl,rfl,rfl⟩|⟨i,o,a,t,rfl,hm,hb,hz⟩⟩:=h
  · exact src_nil
  · simp only [bOf, hm]
    exact src_b hm hb hz
def pk9p : Entry Try.prog where
  f:=16
  g := fun mem xs => match xs with
    | [.slice (some ⟨i, 0, none⟩) l k, .slice bq m cq] => (match mem[i]? with
      |some (x,_)=>some (.bool true,(x=wA .u8 k (bOf mem bq m ++ [77])∧l=m∧BkOk mem bq m cq∧m≤100000000∧m+1≤k))
      |_=>none)
    |_=>none
  ok := fun mem xs v c e hc w β hw hg => by
    split at e
    · rename_i i l k bq m cq
      split at e
      · rename_i x t1 hx
        simp only[Option.some.injEq,Prod.mk.injEq] at e
        obtain⟨rfl,rfl⟩:=e
        obtain⟨rfl,rfl,⟨hcp,hB⟩,hl,hk⟩:=hc
        rcases hB with⟨rfl,rfl,rfl⟩|⟨i2,o,src,st,rfl,hm,hb,hz⟩
        · exact kpn_cq t1 k hk w (fun _=>β i) (fun j y hy=>by
            match j,hy with
            |0,hy=>cases hy;exact hw i _ hx
            |j+1,hy=>simp at hy) (fun j hj=>absurd hj (Nat.not_lt_zero _))
        · have e1 : bOf mem (some ⟨i2, o, none⟩) l = bL src o l := by simp only [bOf, hm]
          rw[e1] at hx
          exact kps_cq t1 st src o l cq k hb hz hcp hl hk w (fun j=>if j=0 then β i else β i2) (fun j y hy=>by
            match j,hy with
            |0,hy=>cases hy;exact hw i _ hx
            |1,hy=>cases hy;exact hw i2 _ hm
            |j+2,hy=>simp at hy) (fun j hj=>absurd hj (Nat.not_lt_zero _))
      · cases e
    · cases e
  call:=call_of Try.func16 (by kernel_rfl) (by kernel_rfl)
end Go.Proofs.Ythldpfindbhkeaa

set_option linter.unusedSimpArgs false
set_option linter.unusedVariables false
/-! siv: the document's keys. -/
namespace Go.Proofs.Ythldpfindbhkeaa
open Go.RowKit Go.Ev
def f8 (E:List Int):List Int:=(List.range 8).map fun i=>E.getD i 0
theorem f8_len (E:List Int):(f8 E).length=8:=by simp[f8]
theorem map_r8 (g h:Nat→Int) (n:Nat) (H:∀ i,i<8→h i=g (8*n+i)):(List.range (8*n)).map g ++ (List.range 8).map h=(List.range (8*(n+1))).map g:=by
  rw[show 8*(n+1)=8*n+8 by omega,List.range_add,List.map_append,List.map_map]
  refine congrArg ((List.range (8*n)).map g ++ ·) (List.map_congr_left fun i hi=> ?_)
  exact H i (by simpa using hi)
theorem ky_app (K N:List Int) (n:Nat):kyL K N 0 n ++ f8 (hfL K N ((n:Nat):Int))=kyL K N 0 (n+1):=
  map_r8 (fun i=>(hfL K N ((0+i / 8:Nat):Int)).getD (i%8) 0) (fun i=>(hfL K N ((n:Nat):Int)).getD i 0) n fun i hi=>by
    show _=(hfL K N ((0+(8*n+i) / 8:Nat):Int)).getD ((8*n+i)%8) 0
    rw[show(8*n+i) / 8=n by omega,show(8*n+i)%8=i by omega,Nat.zero_add]
theorem ky_len (K N:List Int) (s n:Nat):(kyL K N s n).length=8*n:=by simp[kyL]
def cpL (X:List Int) (p i:Nat):List Int:=(List.range i).map fun k=>X.getD (p+k) 0
theorem cpL_at {X:List Int} {p i k:Nat}:(cpL X p i).getD k 0=if k<i then X.getD (p+k) 0 else 0:=by
  unfold cpL
  by_cases h:k<i
  · rw[ofFn_at h,if_pos h]
  · rw[if_neg h,List.getD_eq_getElem?_getD,List.getElem?_eq_none (by simpa using Nat.not_lt.1 h)];rfl
theorem cpL_put {n p i q:Nat} {X:List Int} {V:Int} (hi:i<n) (e:q=i) (hV:V=X.getD (p+i) 0):q<(wA .u8 n (cpL X p i)).size∧(wA .u8 n (cpL X p i)).setIfInBounds q (.int .u8 V)=wA .u8 n (cpL X p (i+1)):=by
  refine⟨by rw[wA_size];omega,?_⟩
  rw[wA_putE hi e]
  refine wA_ext (wA_size _ _ _) fun k hk=> ?_
  rw[wA_at hk,lset_at hk,cpL_at,cpL_at]
  by_cases h:k=i
  · subst h
    rw[if_pos rfl,if_pos (by omega),hV]
  · rw [if_neg h]
    by_cases h2:k<i
    · rw[if_pos h2,if_pos (by omega)]
    · rw[if_neg h2,if_neg (by omega)]
theorem cp_a (K N:List Int):wA .u8 16 (cpL (kyL K N 0 6) 0 16)=wA .u8 16 (kyL K N 0 2):=wA_ext (wA_size _ _ _) fun k hk=>by
  rw[wA_at hk,cpL_at,if_pos hk,kyL_at,kyL_at,Nat.zero_add,if_pos (by omega),if_pos (by omega)]
theorem cp_b (K N:List Int):wA .u8 32 (cpL (kyL K N 0 6) 16 32)=wA .u8 32 (kyL K N 2 4):=wA_ext (wA_size _ _ _) fun k hk=>by
  rw[wA_at hk,cpL_at,if_pos hk,kyL_at,kyL_at,if_pos (by omega),if_pos (by omega),show 0+(16+k) / 8=2+k / 8 by omega,show(16+k)%8=k%8 by omega]
def bkI (N:List Int) (x:Int) (i:Nat):List Int:=(List.range 16).map fun k=>if k<4 then(if k=0 then x else 0) else if k<4+i then N.getD (k - 4) 0 else 0
theorem bkI_0 (N:List Int) (x:Int):wA .u8 16 [x]=wA .u8 16 (bkI N x 0):=wA_ext (wA_size _ _ _) fun k hk=>by
  unfold bkI
  rw[wA_at hk,ofFn_at hk]
  cases k with
  |zero=>rfl
  | succ k =>
    simp
    intros
    omega
theorem bkI_end (N:List Int) (x:Int):bkI N x 12=blkL N x:=List.map_congr_left fun k hk=>by
  have hk:k<16:=by simpa using hk
  by_cases h:k<4
  · rw[if_pos h,if_pos h]
  · rw[if_neg h,if_neg h,if_pos (by omega)]
theorem bkI_put {N:List Int} {x:Int} {i q:Nat} (hi:i<12) (e:q=4+i):q<(wA .u8 16 (bkI N x i)).size∧(wA .u8 16 (bkI N x i)).setIfInBounds q (.int .u8 (N.getD i 0))=wA .u8 16 (bkI N x (i+1)):=by
  refine⟨by rw[wA_size];omega,?_⟩
  rw[wA_putE (p:=4+i) (by omega) e]
  refine wA_ext (wA_size _ _ _) fun k hk=> ?_
  rw[wA_at hk,lset_at hk]
  unfold bkI
  rw[ofFn_at hk,ofFn_at hk]
  by_cases h:k=4+i
  · rw[if_pos h,if_neg (by omega),if_pos (by omega),show k - 4=i by omega]
  · rw [if_neg h]
    by_cases h2:k<4
    · rw[if_pos h2,if_pos h2]
    · rw [if_neg h2, if_neg h2]
      by_cases h3:k<4+i
      · rw[if_pos h3,if_pos (by omega)]
      · rw[if_neg h3,if_neg (by omega)]
def tabZ1:List (Entry Try.prog):=pdb :: ptb :: []
def dFiA_h (i:Nat):Hn:=⟨0,[],[],[],[]⟩
abbrev dFiA_R (w:List Nat) (S:FS) (e:Exit) (K:FS→Prop):Prop:=Rn Try.prog (cAt w (bdy Try.f33)) S e K 0
structure dFiA_c (K N:List Int) (n:Nat):Prop where
  hK:By K
  hN:By N
  hn:n<6
variable {K N:List Int} {n:Nat} {k_1:dFiA_c K N n}
abbrev dFiA (_:dFiA_c K N n):FS:=⟨true,45,[(0,.agg (wA .u8 32 K)),(1,.agg (wA .u8 12 N)),(2,.int .i64 ((n:Nat):Int)),(3,.agg (wA .u8 256 sbT))],[]⟩
abbrev dFiB (_:dFiA_c K N n):FS:=⟨false,45,[(2,.int .i64 ((n:Nat):Int)),(4,.pointer (some ⟨0,0,none⟩)),(5,.pointer (some ⟨1,0,none⟩)),(7,.pointer (some ⟨2,0,none⟩))],[((wA .u8 32 K),(27,(0,0))),((wA .u8 12 N),(28,(0,0))),((wA .u8 256 sbT),(53,(0,0)))]⟩
theorem dFi0:dFiA_R [0] (dFiA k_1) .normal (fun z_=>z_=dFiB k_1):=by
  exact rn_ev (yty.en tabZ1) dFiA_h mixed _ none [] [] 1 (fun j M=>by kernel_rfl) A0 rfl
structure dFiC_c (_:dFiA_c K N n) (x:Int):Prop where
  hx:x=((n:Nat):Int)
variable {x:Int} {k_2:dFiC_c k_1 x}
abbrev dFiC (_:dFiC_c k_1 x):FS:=⟨false,45,[(4,.pointer (some ⟨0,0,none⟩)),(5,.pointer (some ⟨1,0,none⟩)),(7,.pointer (some ⟨2,0,none⟩)),(9,.pointer (some ⟨3,0,none⟩))],[((wA .u8 32 K),(27,(0,0))),((wA .u8 12 N),(28,(0,0))),((wA .u8 256 sbT),(53,(0,0))),((wA .u8 16 [x]),(22,(0,0)))]⟩
theorem dFi1:dFiA_R [1,0] (dFiB k_1) .normal (fun z_=>∃(k_2:dFiC_c k_1 ((n%256:Nat):Int)),z_=dFiC k_2):=by
  have⟨hK,hN,hn⟩:=id k_1
  exact rn_ev (yty.en tabZ1) dFiA_h mixed _ none [some (.int .u8 ((n%256:Nat):Int))] [(3,(IntKind.u8.wrap ((n:Nat):Int))=((n%256:Nat):Int)),(2,((wA .u8 16 [((n%256:Nat):Int)]).all (fun v=>v.oneCell')=true))] 0 (fun j M=>by kernel_rfl) (A1 (wu8 (by omega)) (A1 (wA_one _ _ _) A0)) ⟨⟨by omega⟩,rfl⟩
structure dFiD_c (_:dFiC_c k_1 x) (i:Nat):Prop where
  hi:i≤12
variable {i:Nat} {k_3:dFiD_c k_2 i}
abbrev dFiD (_:dFiD_c k_2 i):FS:=⟨false,45,[(4,.pointer (some ⟨0,0,none⟩)),(5,.pointer (some ⟨1,0,none⟩)),(7,.pointer (some ⟨2,0,none⟩)),(9,.pointer (some ⟨3,0,none⟩)),(10,.int .i64 ((i:Nat):Int))],[((wA .u8 32 K),(27,(0,0))),((wA .u8 12 N),(28,(0,0))),((wA .u8 256 sbT),(53,(0,0))),((wA .u8 16 (bkI N x i)),(22,(0,0)))]⟩
theorem dFi2:dFiA_R [1,1,0,0] (dFiC k_2) .normal (fun z_=>∃(k_3:dFiD_c k_2 0),z_=dFiD k_3):=by
  have⟨hK,hN,hn⟩:=id k_1
  have⟨hx⟩:=id k_2
  exact rn_ev (yty.en tabZ1) dFiA_h mixed (⟨false,45,[(4,.pointer (some ⟨0,0,none⟩)),(5,.pointer (some ⟨1,0,none⟩)),(7,.pointer (some ⟨2,0,none⟩)),(9,.pointer (some ⟨3,0,none⟩)),(10,.int .i64 0)],[((wA .u8 32 K),(27,(0,0))),((wA .u8 12 N),(28,(0,0))),((wA .u8 256 sbT),(53,(0,0))),((wA .u8 16 [x]),(22,(0,0)))]⟩) none [] [] 1 (fun j M=>by kernel_rfl) A0 ⟨⟨by omega⟩,(by
    delta dFiD
    rw[bkI_0 N x]
    try kernel_rfl)⟩
theorem dFi3 (hlt:i<12):dFiA_R [1,1,0,1,0,0] (dFiD k_3) .normal (fun z_=>∃(k_3:dFiD_c k_2 (i+1)),z_=dFiD k_3):=by
  have⟨hK,hN,hn⟩:=id k_1
  have⟨hx⟩:=id k_2
  have⟨hi⟩:=id k_3
  exact rn_ev (yty.en tabZ1) dFiA_h mixed _ none [some (.bool true),some (.int .i64 ((4+i:Nat):Int)),some (.int .u8 (N.getD i 0)),some (.agg (wA .u8 16 (bkI N x (i+1)))),some (.int .i64 ((i+1:Nat):Int))] [(3,(decide (((i:Nat):Int)<12))=true),(3,(IntKind.i64.wrap (4+((i:Nat):Int)))=((4+i:Nat):Int)),(2,(0≤((i:Nat):Int)∧((i:Nat):Int)<((12:Nat):Int))),(0,(((wA .u8 12 N)[(0+Int.toNat ((i:Nat):Int)*1)]? =some (.int .u8 (N.getD i 0)))∧(N.getD i 0)=(N.getD i 0))),(0,(0≤((4+i:Nat):Int)∧((4+i:Nat):Int)<((16:Nat):Int))),(0,((0+Int.toNat ((4+i:Nat):Int)*1)<(wA .u8 16 (bkI N x i)).size∧(wA .u8 16 (bkI N x i)).setIfInBounds (0+Int.toNat ((4+i:Nat):Int)*1) (.int .u8 (N.getD i 0))=(wA .u8 16 (bkI N x (i+1))))),(3,(IntKind.i64.wrap (((i:Nat):Int)+1))=((i+1:Nat):Int))] 1 (fun j M=>by kernel_rfl) (A1 (decide_eq_true (by omega)) (A1 (wi64 (by omega)) (A1 (by(try simp only[Int.toNat_natCast,wA_size]);omega) (A1 ⟨(wA_get (by omega) (by omega)),rfl⟩ (A1 (by(try simp only[Int.toNat_natCast,wA_size]);omega) (A1 (bkI_put hlt (by rw[Int.toNat_natCast];omega)) (A1 (wi64 (by omega)) A0))))))) ⟨⟨by omega⟩,rfl⟩
structure dFiE_c (_:dFiC_c k_1 x) (i:Nat):Prop where
variable {k_4:dFiE_c k_2 i}
abbrev dFiE (_:dFiE_c k_2 i):FS:=⟨false,45,[(4,.pointer (some ⟨0,0,none⟩)),(5,.pointer (some ⟨1,0,none⟩)),(7,.pointer (some ⟨2,0,none⟩)),(9,.pointer (some ⟨3,0,none⟩))],[((wA .u8 32 K),(27,(0,0))),((wA .u8 12 N),(28,(0,0))),((wA .u8 256 sbT),(53,(0,0))),((wA .u8 16 (blkL N x)),(22,(0,0)))]⟩
theorem dFi4 (hge:¬ i<12):dFiA_R [1,1,0,1,0,0] (dFiD k_3) (.exit 0) (fun z_=>∃(k_4:dFiE_c k_2 i),z_=dFiE k_4):=by
  have⟨hK,hN,hn⟩:=id k_1
  have⟨hx⟩:=id k_2
  have⟨hi⟩:=id k_3
  exact rn_ev (yty.en tabZ1) dFiA_h mixed (⟨false,45,[(4,.pointer (some ⟨0,0,none⟩)),(5,.pointer (some ⟨1,0,none⟩)),(7,.pointer (some ⟨2,0,none⟩)),(9,.pointer (some ⟨3,0,none⟩))],[((wA .u8 32 K),(27,(0,0))),((wA .u8 12 N),(28,(0,0))),((wA .u8 256 sbT),(53,(0,0))),((wA .u8 16 (bkI N x i)),(22,(0,0)))]⟩) none [some (.bool false)] [(3,(decide (((i:Nat):Int)<12))=false)] 0 (fun j M=>by kernel_rfl) (A1 (decide_eq_false (by omega)) A0) ⟨⟨⟩,(by
    delta dFiE
    rw[show i=12 by omega,bkI_end]
    try kernel_rfl)⟩
theorem dFi5:dFiA_R [1,1,0,1] (dFiD k_3) .normal (fun z_=>∃(i:Nat) (k_4:dFiE_c k_2 i),z_=dFiE k_4):=by
  refine rn_loop (k:=0) (w:= [1,1,0,1]) (by kernel_rfl) (fun n_ z_=>∃(i:Nat) (k_3:dFiD_c k_2 i),n_=12 - i∧z_=dFiD k_3) _ ⟨_,k_3,rfl,rfl⟩ ?_
  rintro n_ _ ⟨i,k_3,hn_,rfl⟩
  have⟨hK,hN,hn⟩:=k_1
  have⟨hx⟩:=k_2
  have⟨hi⟩:=k_3
  by_cases hlt:i<12
  · exact(dFi3 hlt).x fun _ ⟨k_3,e_⟩=> .inl ⟨rfl,12 - (i+1),by omega,⟨_,k_3,rfl,e_⟩⟩
  · exact(dFi4 hlt).x fun _ ⟨k_4,e_⟩=> .inr ⟨rfl,⟨i,k_4,e_⟩⟩
theorem dFi6:dFiA_R [1,1,0] (dFiC k_2) .normal (fun z_=>∃(i1:Nat) (k_4:dFiE_c k_2 i1),z_=dFiE k_4):=by
  refine rn_seq (w:= [1,1,0]) (by kernel_rfl) dFi2 ?_
  rintro _ ⟨k_3,rfl⟩
  exact dFi5
structure dFiF_c (K N:List Int) (n:Nat) (x:Int) (i:Nat) (E:List Int):Prop where
  hE:E=hfL K N ((n:Nat):Int)
variable {E:List Int} {k_5:dFiF_c K N n x i E}
abbrev dFiF (_:dFiF_c K N n x i E):FS:=⟨false,45,[(4,.pointer (some ⟨0,0,none⟩)),(5,.pointer (some ⟨1,0,none⟩)),(7,.pointer (some ⟨2,0,none⟩)),(9,.pointer (some ⟨3,0,none⟩))],[((wA .u8 32 K),(27,(0,0))),((wA .u8 12 N),(28,(0,0))),((wA .u8 256 sbT),(53,(0,0))),((wA .u8 16 E),(22,(0,0)))]⟩
theorem dFi7:dFiA_R [1,1,1,0] (dFiE k_4) .normal (fun z_=>∃(k_5:dFiF_c K N n x i (encL (dL8 (wA .u8 32 K)) (dL8 (wA .u8 16 (blkL N x))))),z_=dFiF k_5):=by
  have⟨hK,hN,hn⟩:=id k_1
  have⟨hx⟩:=id k_2
  exact rn_ev (yty.en tabZ1) dFiA_h mixed _ none [] [(6,(((wA .u8 32 K)=wA .u8 32 (dL8 (wA .u8 32 K))∧By (dL8 (wA .u8 32 K)))∧((wA .u8 16 (blkL N x))=wA .u8 16 (dL8 (wA .u8 16 (blkL N x)))∧By (dL8 (wA .u8 16 (blkL N x))))∧(wA .u8 256 sbT)=wA .u8 256 sbT)),(0,((wA .u8 16 (encL (dL8 (wA .u8 32 K)) (dL8 (wA .u8 16 (blkL N x))))).all (fun v=>v.oneCell')=true))] 0 (fun j M=>by kernel_rfl) (A1 ⟨dq hK,dq (blkL_by hN (by omega)),rfl⟩ (A1 (wA_one _ _ _) A0)) ⟨⟨by rw[encL_q,hx];rfl⟩,rfl⟩
abbrev dFiG (_:dFiF_c K N n x i E):FS:=⟨false,45,[(8,.slice (some ⟨4,0,none⟩) 8 8)],[((wA .u8 32 K),(27,(0,0))),((wA .u8 12 N),(28,(0,0))),((wA .u8 256 sbT),(53,(0,0))),((wA .u8 16 E),(22,(0,0))),((wA .u8 8 (f8 E)),(5,(0,0)))]⟩
theorem dFi8:dFiA_R [1,1,1,1] (dFiF k_5) .ret (fun z_=>z_=dFiG k_5):=by
  have⟨hE⟩:=id k_5
  exact rn_ev (yty.en tabZ1) dFiA_h mixed _ none [some (.int .u8 (E.getD 0 0)),some (.int .u8 (E.getD 1 0)),some (.int .u8 (E.getD 2 0)),some (.int .u8 (E.getD 3 0)),some (.int .u8 (E.getD 4 0)),some (.int .u8 (E.getD 5 0)),some (.int .u8 (E.getD 6 0)),some (.int .u8 (E.getD 7 0))] [(0,bdN 0 16),(0,(((wA .u8 16 E)[0]? =some (.int .u8 (E.getD 0 0)))∧(E.getD 0 0)=(E.getD 0 0))),(0,bdN 1 16),(0,(((wA .u8 16 E)[1]? =some (.int .u8 (E.getD 1 0)))∧(E.getD 1 0)=(E.getD 1 0))),(0,bdN 2 16),(0,(((wA .u8 16 E)[2]? =some (.int .u8 (E.getD 2 0)))∧(E.getD 2 0)=(E.getD 2 0))),(0,bdN 3 16),(0,(((wA .u8 16 E)[3]? =some (.int .u8 (E.getD 3 0)))∧(E.getD 3 0)=(E.getD 3 0))),(0,bdN 4 16),(0,(((wA .u8 16 E)[4]? =some (.int .u8 (E.getD 4 0)))∧(E.getD 4 0)=(E.getD 4 0))),(0,bdN 5 16),(0,(((wA .u8 16 E)[5]? =some (.int .u8 (E.getD 5 0)))∧(E.getD 5 0)=(E.getD 5 0))),(0,bdN 6 16),(0,(((wA .u8 16 E)[6]? =some (.int .u8 (E.getD 6 0)))∧(E.getD 6 0)=(E.getD 6 0))),(0,bdN 7 16),(0,(((wA .u8 16 E)[7]? =some (.int .u8 (E.getD 7 0)))∧(E.getD 7 0)=(E.getD 7 0)))] 1 (fun j M=>by kernel_rfl) (A1 (bdd rfl) (A1 ⟨(wA_get (by omega) (by omega)),rfl⟩ (A1 (bdd rfl) (A1 ⟨(wA_get (by omega) (by omega)),rfl⟩ (A1 (bdd rfl) (A1 ⟨(wA_get (by omega) (by omega)),rfl⟩ (A1 (bdd rfl) (A1 ⟨(wA_get (by omega) (by omega)),rfl⟩ (A1 (bdd rfl) (A1 ⟨(wA_get (by omega) (by omega)),rfl⟩ (A1 (bdd rfl) (A1 ⟨(wA_get (by omega) (by omega)),rfl⟩ (A1 (bdd rfl) (A1 ⟨(wA_get (by omega) (by omega)),rfl⟩ (A1 (bdd rfl) (A1 ⟨(wA_get (by omega) (by omega)),rfl⟩ A0)))))))))))))))) rfl
theorem dFiu':dFiA_R [] (dFiA k_1) .ret (fun z_=>∃(i12:Nat) (k_5:dFiF_c K N n ((n%256:Nat):Int) i12 (encL (dL8 (wA .u8 32 K)) (dL8 (wA .u8 16 (blkL N ((n%256:Nat):Int)))))),z_=dFiG k_5):=by
  refine rn_seq (w:= []) (by kernel_rfl) dFi0 ?_
  rintro _ rfl
  refine rn_seq (w:= [1]) (by kernel_rfl) dFi1 ?_
  rintro _ ⟨k_2,rfl⟩
  refine rn_seq (w:= [1,1]) (by kernel_rfl) dFi6 ?_
  rintro _ ⟨i12,k_4,rfl⟩
  refine rn_seq (w:= [1,1,1]) (by kernel_rfl) dFi7 ?_
  rintro _ ⟨k_5,rfl⟩
  exact(dFi8).mono fun _ e_=>⟨i12,k_5,e_⟩
abbrev dFiA_s (K N:List Int) (n:Nat) (j:Nat→Value):List Value:=([.agg (wA .u8 32 K),.agg (wA .u8 12 N),.int .i64 ((n:Nat):Int),.agg (wA .u8 256 sbT)] ++ (JU 41))
abbrev dFiA_m (K N:List Int) (n:Nat):List Mb:= []
abbrev dFiG_s (K N:List Int) (n:Nat) (x:Int) (i:Nat) (E:List Int) (j:Nat→Value):List Value:=(J j 0 8 ++ ([.slice (some ⟨4,0,none⟩) 8 8] ++ (J j 9 36)))
abbrev dFiG_m (K N:List Int) (n:Nat) (x:Int) (i:Nat) (E:List Int):List Mb:= [((wA .u8 32 K),(27,(0,0))),((wA .u8 12 N),(28,(0,0))),((wA .u8 256 sbT),(53,(0,0))),((wA .u8 16 E),(22,(0,0))),((wA .u8 8 (f8 E)),(5,(0,0)))]
theorem dFiu (K N:List Int) (n:Nat) (j:Nat→Value) (hK:By K) (hN:By N) (hn:n<6)  {c0:Prop} {ch0:List (Option Value)}:Runs Try.prog (cAt [] (bdy Try.f33)) ⟨dFiA_s K N n j,dFiA_m K N n,c0,ch0⟩ (fun e s=>e= .ret∧∃(i12:Nat) (j:Nat→Value) (c:Prop) (ch:List (Option Value)),((encL (dL8 (wA .u8 32 K)) (dL8 (wA .u8 16 (blkL N ((n%256:Nat):Int)))))=hfL K N ((n:Nat):Int))∧s=⟨dFiG_s K N n ((n%256:Nat):Int) i12 (encL (dL8 (wA .u8 32 K)) (dL8 (wA .u8 16 (blkL N ((n%256:Nat):Int))))) j,dFiG_m K N n ((n%256:Nat):Int) i12 (encL (dL8 (wA .u8 32 K)) (dL8 (wA .u8 16 (blkL N ((n%256:Nat):Int))))),c,ch⟩) 0:=by
  refine(Rn.old (dFiu' (k_1:=(⟨hK,hN,hn⟩:dFiA_c K N n))) j (by kernel_rfl)).mono ?_
  rintro e s ⟨rfl,_,⟨i12,k_5,rfl⟩,j,c,ch,rfl⟩
  have⟨x_hE⟩:=k_5
  exact⟨rfl,i12,j,c,ch,x_hE,by kernel_rfl⟩
theorem dFi_c (K N:List Int) (n:Nat) (hK:By K) (hN:By N) (hn:n<6):Makes Try.prog 33 [] [.agg (wA .u8 32 K),.agg (wA .u8 12 N),.int .i64 ((n:Nat):Int),.agg (wA .u8 256 sbT)] (wA .u8 8 (f8 (hfL K N ((n:Nat):Int)))) 5 8 8:=by
  refine makes_runs (fk:=0) Try.func33 (c:=bdy Try.f33) (by kernel_rfl) ⟨rfl,by decide⟩ (args:= [.agg (wA .u8 32 K),.agg (wA .u8 12 N),.int .i64 ((n:Nat):Int),.agg (wA .u8 256 sbT)]) (by kernel_rfl) (r:=8) (by kernel_rfl) (dFiu K N n (fun _=>undef) hK hN hn) ?_
  rintro e s ⟨rfl,i,j,c,ch,hE,rfl⟩
  refine⟨rfl,4,by decide,rfl,?_⟩
  rw[← hE]
  rfl
def mFirst : Maker Try.prog where
  f:=33
  g := fun mem xs => match xs with
    | [.agg a,.agg b,.int k x,.agg d]=>some (wA .u8 8 (f8 (hfL (dL8 a) (dL8 b) x)),5,8,8,(((a=wA .u8 32 (dL8 a)∧By (dL8 a))∧(b=wA .u8 12 (dL8 b)∧By (dL8 b)))∧k= .i64∧d=wA .u8 256 sbT∧0≤x∧x<6))
    |_=>none
  ok := fun mem xs cs t n k c e hc w β hw hg => by
    split at e
    · rename_i a b q x d
      simp only[Option.some.injEq,Prod.mk.injEq] at e
      obtain⟨rfl,rfl,rfl,rfl,rfl⟩:=e
      obtain⟨⟨⟨h1,h2⟩,h3,h4⟩,rfl,rfl,hx⟩:=hc
      have:=dFi_c (dL8 a) (dL8 b) x.toNat h2 h4 (by omega) w β (fun i x hx=>by simp at hx) (fun i hi=>by simp at hi)
      rw[show((x.toNat:Nat):Int)=x by omega] at this
      rw[← h1,← h3] at this
      exact this
    · cases e
  call:=call_of Try.func33 (by kernel_rfl) (by kernel_rfl)
def dKyA_h (i:Nat):Hn:=if i=17 then⟨0,[(0,true),(1,true),(2,false),(3,false)],[],[0,1,4,5,6,7],[]⟩ else⟨0,[],[],[],[]⟩
abbrev dKyA_R (w:List Nat) (S:FS) (e:Exit) (K:FS→Prop):Prop:=Rn Try.prog (cAt w (bdy Try.f15)) S e K 0
structure dKyA_c (K N:List Int):Prop where
  hK:By K
  hN:By N
variable {k_6:dKyA_c K N}
abbrev dKyA (_:dKyA_c K N):FS:=⟨true,48,[(0,.agg (wA .u8 32 K)),(1,.agg (wA .u8 12 N))],[]⟩
abbrev dKyB (_:dKyA_c K N):FS:=⟨false,48,[(2,.pointer (some ⟨0,0,none⟩)),(3,.pointer (some ⟨1,0,none⟩)),(4,.pointer (some ⟨2,0,none⟩)),(5,.pointer (some ⟨3,0,none⟩))],[((wA .u8 32 K),(27,(0,0))),((wA .u8 12 N),(28,(0,0))),((wA .u8 16 []),(22,(0,0))),((wA .u8 32 []),(27,(0,0)))]⟩
theorem dKy0:dKyA_R [0] (dKyA k_6) .normal (fun z_=>z_=dKyB k_6):=by
  exact rn_ev (yty.enm tabZ1 [mFirst] 0) dKyA_h mixed _ none [] [] 0 (fun j M=>by kernel_rfl) A0 rfl
abbrev dKyC (_:dKyA_c K N):FS:=⟨false,48,[(2,.pointer (some ⟨0,0,none⟩)),(3,.pointer (some ⟨1,0,none⟩)),(4,.pointer (some ⟨2,0,none⟩)),(5,.pointer (some ⟨3,0,none⟩)),(6,.pointer (some ⟨4,0,none⟩))],[((wA .u8 32 K),(27,(0,0))),((wA .u8 12 N),(28,(0,0))),((wA .u8 16 []),(22,(0,0))),((wA .u8 32 []),(27,(0,0))),((wA .u8 256 sbT),(53,(0,0)))]⟩
theorem dKy1:dKyA_R [1,0] (dKyB k_6) .normal (fun z_=>z_=dKyC k_6):=by
  exact rn_ev (yty.enm tabZ1 [mFirst] 0) dKyA_h mixed _ none [] [(2,((wA .u8 256 sbT).all (fun v=>v.oneCell')=true))] 0 (fun j M=>by kernel_rfl) (A1 (wA_one _ _ _) A0) rfl
abbrev dKyD (_:dKyA_c K N):FS:=⟨false,48,[(2,.pointer (some ⟨0,0,none⟩)),(3,.pointer (some ⟨1,0,none⟩)),(4,.pointer (some ⟨2,0,none⟩)),(5,.pointer (some ⟨3,0,none⟩)),(6,.pointer (some ⟨4,0,none⟩)),(7,.slice none 0 0)],[((wA .u8 32 K),(27,(0,0))),((wA .u8 12 N),(28,(0,0))),((wA .u8 16 []),(22,(0,0))),((wA .u8 32 []),(27,(0,0))),((wA .u8 256 sbT),(53,(0,0)))]⟩
theorem dKy2:dKyA_R [1,1,0] (dKyC k_6) .normal (fun z_=>z_=dKyD k_6):=by
  exact rn_ev (yty.enm tabZ1 [mFirst] 0) dKyA_h mixed _ none [] [] 1 (fun j M=>by kernel_rfl) A0 rfl
abbrev dKyE (_:dKyA_c K N):FS:=⟨false,48,[(2,.pointer (some ⟨0,0,none⟩)),(3,.pointer (some ⟨1,0,none⟩)),(4,.pointer (some ⟨2,0,none⟩)),(5,.pointer (some ⟨3,0,none⟩)),(6,.pointer (some ⟨4,0,none⟩)),(7,.slice none 0 0),(8,.int .i64 0)],[((wA .u8 32 K),(27,(0,0))),((wA .u8 12 N),(28,(0,0))),((wA .u8 16 []),(22,(0,0))),((wA .u8 32 []),(27,(0,0))),((wA .u8 256 sbT),(53,(0,0)))]⟩
theorem dKy3:dKyA_R [1,1,1,0,0] (dKyD k_6) .normal (fun z_=>z_=dKyE k_6):=by
  exact rn_ev (yty.enm tabZ1 [mFirst] 0) dKyA_h mixed _ none [] [] 1 (fun j M=>by kernel_rfl) A0 rfl
structure dKyF_c (_:dKyA_c K N) (i m c4:Nat) (Y:List Int):Prop where
  hY:Y=kyL K N 0 i
  hm:m=8*i
  hc:m≤c4
  hi:i≤6
variable {m c4:Nat} {Y:List Int} {k_7:dKyF_c k_6 i m c4 Y}
abbrev dKyF (_:dKyF_c k_6 i m c4 Y):FS:=⟨false,48,[(2,.pointer (some ⟨0,0,none⟩)),(3,.pointer (some ⟨1,0,none⟩)),(4,.pointer (some ⟨2,0,none⟩)),(5,.pointer (some ⟨3,0,none⟩)),(6,.pointer (some ⟨4,0,none⟩)),(7,.slice (some ⟨5,0,none⟩) m c4),(8,.int .i64 ((i:Nat):Int))],[((wA .u8 32 K),(27,(0,0))),((wA .u8 12 N),(28,(0,0))),((wA .u8 16 []),(22,(0,0))),((wA .u8 32 []),(27,(0,0))),((wA .u8 256 sbT),(53,(0,0))),((wA .u8 c4 Y),(5,(0,0)))]⟩
structure dKyG_c (_:dKyA_c K N) (i m c4:Nat) (Y:List Int):Prop where
  hY:Y=kyL K N 0 (i+1)
  hm:m=8*(i+1)
  hc:m≤c4
  hi:i<6
variable {k_8:dKyG_c k_6 i m c4 Y}
abbrev dKyG (_:dKyG_c k_6 i m c4 Y):FS:=⟨false,48,[(2,.pointer (some ⟨0,0,none⟩)),(3,.pointer (some ⟨1,0,none⟩)),(4,.pointer (some ⟨2,0,none⟩)),(5,.pointer (some ⟨3,0,none⟩)),(6,.pointer (some ⟨4,0,none⟩)),(7,.slice (some ⟨5,0,none⟩) m c4),(8,.int .i64 ((i:Nat):Int))],[((wA .u8 32 K),(27,(0,0))),((wA .u8 12 N),(28,(0,0))),((wA .u8 16 []),(22,(0,0))),((wA .u8 32 []),(27,(0,0))),((wA .u8 256 sbT),(53,(0,0))),((wA .u8 c4 Y),(5,(0,0)))]⟩
theorem dKy4:dKyA_R [1,1,1,0,1,0,0,0] (dKyE k_6) .normal (fun z_=>z_=dKyE k_6):=by
  exact rn_ev (yty.enm tabZ1 [mFirst] 0) dKyA_h mixed _ none [some (.bool true)] [(3,true=true)] 0 (fun j M=>by kernel_rfl) (A1 rfl A0) rfl
structure dKyH_c (_:dKyA_c K N) (i m c4:Nat) (Y:List Int):Prop where
  hY:Y=kyL K N 0 i
  hm:m=8*i
  hc:m≤c4
  hi:i<6
variable {k_9:dKyH_c k_6 i m c4 Y}
abbrev dKyH (_:dKyH_c k_6 i m c4 Y):FS:=⟨false,48,[(2,.pointer (some ⟨0,0,none⟩)),(3,.pointer (some ⟨1,0,none⟩)),(4,.pointer (some ⟨2,0,none⟩)),(5,.pointer (some ⟨3,0,none⟩)),(6,.pointer (some ⟨4,0,none⟩)),(7,.slice (some ⟨5,0,none⟩) m c4),(8,.int .i64 ((i:Nat):Int))],[((wA .u8 32 K),(27,(0,0))),((wA .u8 12 N),(28,(0,0))),((wA .u8 16 []),(22,(0,0))),((wA .u8 32 []),(27,(0,0))),((wA .u8 256 sbT),(53,(0,0))),((wA .u8 c4 Y),(5,(0,0)))]⟩
theorem dKy5 (hlt:i<6):dKyA_R [1,1,1,0,1,0,0,0] (dKyF k_7) .normal (fun z_=>∃(k_9:dKyH_c k_6 i m c4 Y),z_=dKyH k_9):=by
  have⟨hK,hN⟩:=id k_6
  have⟨hY,hm,hc,hi⟩:=id k_7
  exact rn_ev (yty.enm tabZ1 [mFirst] 0) dKyA_h mixed _ none [some (.bool true)] [(3,(decide (((i:Nat):Int)<6))=true)] 0 (fun j M=>by kernel_rfl) (A1 (decide_eq_true (by omega)) A0) ⟨⟨hY,hm,hc,hlt⟩,rfl⟩
theorem dKy6:dKyA_R [1,1,1,0,1,0,0,1,0,0] (dKyE k_6) .normal (fun z_=>∃(k1:Nat) (k_8:dKyG_c k_6 0 8 k1 (f8 (hfL (dL8 (wA .u8 32 K)) (dL8 (wA .u8 12 N)) 0))),z_=dKyG k_8):=by
  have⟨hK,hN⟩:=id k_6
  refine rn_reg (some (true,5)) (by kernel_rfl) fun j c0 ch0=> ?_
  refine rl_appN (yty.enm tabZ1 [mFirst] 0) apY apY.ht 6 [] [(10,((((wA .u8 32 K)=wA .u8 32 (dL8 (wA .u8 32 K))∧By (dL8 (wA .u8 32 K)))∧((wA .u8 12 N)=wA .u8 12 (dL8 (wA .u8 12 N))∧By (dL8 (wA .u8 12 N))))∧IntKind.i64=IntKind.i64∧(wA .u8 256 sbT)=wA .u8 256 sbT∧(0:Int)≤0∧(0:Int)<6))] 0 [((wA .u8 32 K),(27,(0,0))),((wA .u8 12 N),(28,(0,0))),((wA .u8 16 []),(22,(0,0))),((wA .u8 32 []),(27,(0,0))),((wA .u8 256 sbT),(53,(0,0))),((wA .u8 8 (f8 (hfL (dL8 (wA .u8 32 K)) (dL8 (wA .u8 12 N)) 0))),(5,(0,0)))] 6 (f8 (hfL (dL8 (wA .u8 32 K)) (dL8 (wA .u8 12 N)) 0)) (.slice (some ⟨5,0,none⟩) 8 8) (some 24) (by kernel_rfl) (A1 ⟨⟨dq hK,dq hN⟩,rfl,rfl,by omega,by omega⟩ A0) (src_wA (i:=5) rfl (f8_len _).symm (by rw[f8_len];decide)) (by rw[f8_len];decide) (by rw[f8_len];decide) fun n1 k1 c1_ e1_ hn1 hk1=> ?_
  try simp only[zL] at hn1
  obtain rfl:n1=8:=by rw[hn1,f8_len]
  exact rl_end (E:=(yty.enm tabZ1 [mFirst] 0)) _ [] [] 1 (fun M=>by kernel_rfl) A0 ⟨k1,⟨by rw[hfL_w];exact ky_app K N 0,rfl,by rw[f8_len] at hn1;omega,by decide⟩,rfl⟩
theorem dKy7:dKyA_R [1,1,1,0,1,0,0,1,0,0] (dKyH k_9) .normal (fun z_=>∃(k1:Nat) (k_8:dKyG_c k_6 i (m+8) k1 (Y ++ (f8 (hfL (dL8 (wA .u8 32 K)) (dL8 (wA .u8 12 N)) ((i:Nat):Int))))),z_=dKyG k_8):=by
  have⟨hK,hN⟩:=id k_6
  have⟨hY,hm,hc,hi⟩:=id k_9
  refine rn_reg (some (false,6)) (by kernel_rfl) fun j c0 ch0=> ?_
  refine rl_app (yty.enm tabZ1 [mFirst] 0) apY apY.ht 6 [] [(10,((((wA .u8 32 K)=wA .u8 32 (dL8 (wA .u8 32 K))∧By (dL8 (wA .u8 32 K)))∧((wA .u8 12 N)=wA .u8 12 (dL8 (wA .u8 12 N))∧By (dL8 (wA .u8 12 N))))∧IntKind.i64=IntKind.i64∧(wA .u8 256 sbT)=wA .u8 256 sbT∧(0:Int)≤((i:Nat):Int)∧(((i:Nat):Int):Int)<6))] 0 [((wA .u8 32 K),(27,(0,0))),((wA .u8 12 N),(28,(0,0))),((wA .u8 16 []),(22,(0,0))),((wA .u8 32 []),(27,(0,0))),((wA .u8 256 sbT),(53,(0,0))),((wA .u8 c4 Y),(5,(0,0))),((wA .u8 8 (f8 (hfL (dL8 (wA .u8 32 K)) (dL8 (wA .u8 12 N)) ((i:Nat):Int)))),(5,(0,0)))] 5 m c4 Y (f8 (hfL (dL8 (wA .u8 32 K)) (dL8 (wA .u8 12 N)) ((i:Nat):Int))) (.slice (some ⟨6,0,none⟩) 8 8) (some 24) (by kernel_rfl) (A1 ⟨⟨dq hK,dq hN⟩,rfl,rfl,by omega,by omega⟩ A0) (by rw[hY,ky_len];exact hm) (by rw[hY,ky_len];omega) (src_wA (i:=6) rfl (f8_len _).symm (by rw[f8_len];decide)) (by rw[hY,ky_len,f8_len];omega) fun n1 k1 M1 c1_ e1_ hn1 hk1=> ?_
  try simp only[zL] at hn1
  obtain rfl:n1=m+8:=by rw[hn1,hY,ky_len,f8_len];omega
  exact rl_end (E:=(yty.enm tabZ1 [mFirst] 0)) _ [] [] 1 (fun M=>by kernel_rfl) A0 ⟨k1,⟨by rw[hfL_w,hY];exact ky_app K N i,by omega,by rw[f8_len,hY,ky_len] at hn1;omega,hi⟩,rfl⟩
theorem dKy8:dKyA_R [1,1,1,0,1,0,0,1,1] (dKyG k_8) .normal (fun z_=>∃(k_7:dKyF_c k_6 (i+1) m c4 Y),z_=dKyF k_7):=by
  have⟨hK,hN⟩:=id k_6
  have⟨hY,hm,hc,hi⟩:=id k_8
  exact rn_ev (yty.enm tabZ1 [mFirst] 0) dKyA_h mixed _ none [some (.int .i64 ((i+1:Nat):Int))] [(3,(IntKind.i64.wrap (((i:Nat):Int)+1))=((i+1:Nat):Int))] 1 (fun j M=>by kernel_rfl) (A1 (wi64 (by omega)) A0) ⟨⟨hY,hm,hc,by omega⟩,rfl⟩
structure dKyI_c (_:dKyA_c K N) (m c4:Nat):Prop where
  hm:m=48
  hc:m≤c4
variable {k_10:dKyI_c k_6 m c4}
abbrev dKyI (_:dKyI_c k_6 m c4):FS:=⟨false,48,[(2,.pointer (some ⟨0,0,none⟩)),(3,.pointer (some ⟨1,0,none⟩)),(4,.pointer (some ⟨2,0,none⟩)),(5,.pointer (some ⟨3,0,none⟩)),(7,.slice (some ⟨5,0,none⟩) m c4)],[((wA .u8 32 K),(27,(0,0))),((wA .u8 12 N),(28,(0,0))),((wA .u8 16 []),(22,(0,0))),((wA .u8 32 []),(27,(0,0))),((wA .u8 256 sbT),(53,(0,0))),((wA .u8 c4 (kyL K N 0 6)),(5,(0,0)))]⟩
theorem dKy9 (hge:¬ i<6):dKyA_R [1,1,1,0,1,0,0,0] (dKyF k_7) (.exit 0) (fun z_=>∃(k_10:dKyI_c k_6 m c4),z_=dKyI k_10):=by
  have⟨hK,hN⟩:=id k_6
  have⟨hY,hm,hc,hi⟩:=id k_7
  exact rn_ev (yty.enm tabZ1 [mFirst] 0) dKyA_h mixed (⟨false,48,[(2,.pointer (some ⟨0,0,none⟩)),(3,.pointer (some ⟨1,0,none⟩)),(4,.pointer (some ⟨2,0,none⟩)),(5,.pointer (some ⟨3,0,none⟩)),(7,.slice (some ⟨5,0,none⟩) m c4)],[((wA .u8 32 K),(27,(0,0))),((wA .u8 12 N),(28,(0,0))),((wA .u8 16 []),(22,(0,0))),((wA .u8 32 []),(27,(0,0))),((wA .u8 256 sbT),(53,(0,0))),((wA .u8 c4 Y),(5,(0,0)))]⟩) none [some (.bool false)] [(3,(decide (((i:Nat):Int)<6))=false)] 0 (fun j M=>by kernel_rfl) (A1 (decide_eq_false (by omega)) A0) ⟨⟨by omega,hc⟩,(by
    delta dKyI
    rw[hY,show i=6 by omega]
    try kernel_rfl)⟩
theorem dKy0a:dKyA_R [1,1,1,0,1,0,0,1,0] (dKyE k_6) .normal (fun z_=>∃(k1:Nat) (k_8:dKyG_c k_6 0 8 k1 (f8 (hfL (dL8 (wA .u8 32 K)) (dL8 (wA .u8 12 N)) 0))),z_=dKyG k_8):=by
  exact rn_block (k:=1) (w:= [1,1,1,0,1,0,0,1,0]) (by kernel_rfl) dKy6
theorem dKy0b:dKyA_R [1,1,1,0,1,0,0,1,0] (dKyH k_9) .normal (fun z_=>∃(k1:Nat) (k_8:dKyG_c k_6 i (m+8) k1 (Y ++ (f8 (hfL (dL8 (wA .u8 32 K)) (dL8 (wA .u8 12 N)) ((i:Nat):Int))))),z_=dKyG k_8):=by
  exact rn_block (k:=1) (w:= [1,1,1,0,1,0,0,1,0]) (by kernel_rfl) dKy7
theorem dKy0c:dKyA_R [1,1,1,0,1,0,0] (dKyE k_6) .normal (fun z_=>∃(k11:Nat) (k_7:dKyF_c k_6 (0+1) 8 k11 (f8 (hfL (dL8 (wA .u8 32 K)) (dL8 (wA .u8 12 N)) 0))),z_=dKyF k_7):=by
  refine rn_seq (w:= [1,1,1,0,1,0,0]) (by kernel_rfl) dKy4 ?_
  rintro _ rfl
  refine rn_seq (w:= [1,1,1,0,1,0,0,1]) (by kernel_rfl) dKy0a ?_
  rintro _ ⟨k11,k_8,rfl⟩
  exact(dKy8).mono fun _ ⟨k_7,e_⟩=>⟨k11,k_7,e_⟩
theorem dKy0d (hlt:i<6):dKyA_R [1,1,1,0,1,0,0] (dKyF k_7) .normal (fun z_=>∃(k11:Nat) (k_7:dKyF_c k_6 (i+1) (m+8) k11 (Y ++ (f8 (hfL (dL8 (wA .u8 32 K)) (dL8 (wA .u8 12 N)) ((i:Nat):Int))))),z_=dKyF k_7):=by
  refine rn_seq (w:= [1,1,1,0,1,0,0]) (by kernel_rfl) (dKy5 hlt) ?_
  rintro _ ⟨k_9,rfl⟩
  refine rn_seq (w:= [1,1,1,0,1,0,0,1]) (by kernel_rfl) dKy0b ?_
  rintro _ ⟨k11,k_8,rfl⟩
  exact(dKy8).mono fun _ ⟨k_7,e_⟩=>⟨k11,k_7,e_⟩
theorem dKy0e:dKyA_R [1,1,1,0,1] (dKyE k_6) .normal (fun z_=>∃(i m c4:Nat) (Y:List Int) (k_10:dKyI_c k_6 m c4),z_=dKyI k_10):=by
  refine rn_loop (k:=0) (w:= [1,1,1,0,1]) (by kernel_rfl) (fun n_ z_=>(n_=6 - 0∧z_=dKyE k_6)∨∃(i m c4:Nat) (Y:List Int) (k_7:dKyF_c k_6 i m c4 Y),n_=6 - i∧z_=dKyF k_7) _ (.inl ⟨rfl,rfl⟩) ?_
  rintro n_ _ (⟨hn_,rfl⟩|⟨i,m,c4,Y,k_7,hn_,rfl⟩)
  · have ⟨hK, hN⟩ := k_6
    have hlt:0<6:=by omega
    exact dKy0c.x fun _ ⟨k11_,k_7,e_⟩=> .inl ⟨rfl,6 - (0+1),by omega,.inr ⟨_,_,_,_,k_7,rfl,e_⟩⟩
  · have ⟨hK, hN⟩ := k_6
    have⟨hY,hm,hc,hi⟩:=k_7
    by_cases hlt:i<6
    · exact(dKy0d hlt).x fun _ ⟨k11_,k_7,e_⟩=> .inl ⟨rfl,6 - (i+1),by omega,.inr ⟨_,_,_,_,k_7,rfl,e_⟩⟩
    · exact(rn_seqx (w:= [1,1,1,0,1,0,0]) (by kernel_rfl) (dKy9 hlt) (by simp)).x fun _ ⟨k_10,e_⟩=> .inr ⟨rfl,⟨i,m,c4,Y,k_10,e_⟩⟩
theorem dKy0f:dKyA_R [1,1,1,0] (dKyD k_6) .normal (fun z_=>∃(i1 m1 c41:Nat) (Y1:List Int) (k_10:dKyI_c k_6 m1 c41),z_=dKyI k_10):=by
  refine rn_seq (w:= [1,1,1,0]) (by kernel_rfl) dKy3 ?_
  rintro _ rfl
  exact dKy0e
abbrev dKyJ (_:dKyI_c k_6 m c4):FS:=⟨false,48,[(2,.pointer (some ⟨0,0,none⟩)),(3,.pointer (some ⟨1,0,none⟩)),(4,.pointer (some ⟨2,0,none⟩)),(5,.pointer (some ⟨3,0,none⟩)),(7,.slice (some ⟨5,0,none⟩) m c4),(9,.pointer (some ⟨6,0,none⟩))],[((wA .u8 32 K),(27,(0,0))),((wA .u8 12 N),(28,(0,0))),((wA .u8 16 []),(22,(0,0))),((wA .u8 32 []),(27,(0,0))),((wA .u8 256 sbT),(53,(0,0))),((wA .u8 c4 (kyL K N 0 6)),(5,(0,0))),((wA .u8 16 []),(22,(0,0)))]⟩
theorem dKy0g:dKyA_R [1,1,1,1,0] (dKyI k_10) .normal (fun z_=>z_=dKyJ k_10):=by
  exact rn_ev (yty.enm tabZ1 [mFirst] 0) dKyA_h mixed _ none [] [] 0 (fun j M=>by kernel_rfl) A0 rfl
abbrev dKyK (_:dKyI_c k_6 m c4):FS:=⟨false,48,[(2,.pointer (some ⟨0,0,none⟩)),(3,.pointer (some ⟨1,0,none⟩)),(4,.pointer (some ⟨2,0,none⟩)),(5,.pointer (some ⟨3,0,none⟩)),(7,.slice (some ⟨5,0,none⟩) m c4),(9,.pointer (some ⟨6,0,none⟩)),(10,.pointer (some ⟨7,0,none⟩))],[((wA .u8 32 K),(27,(0,0))),((wA .u8 12 N),(28,(0,0))),((wA .u8 16 []),(22,(0,0))),((wA .u8 32 []),(27,(0,0))),((wA .u8 256 sbT),(53,(0,0))),((wA .u8 c4 (kyL K N 0 6)),(5,(0,0))),((wA .u8 16 []),(22,(0,0))),((wA .u8 32 []),(27,(0,0)))]⟩
theorem dKy0h:dKyA_R [1,1,1,1,1,0] (dKyJ k_10) .normal (fun z_=>z_=dKyK k_10):=by
  exact rn_ev (yty.enm tabZ1 [mFirst] 0) dKyA_h mixed _ none [] [] 0 (fun j M=>by kernel_rfl) A0 rfl
structure dKyL_c (_:dKyI_c k_6 m c4) (k:Nat):Prop where
  hk:k≤16
variable {k:Nat} {k_11:dKyL_c k_10 k}
abbrev dKyL (_:dKyL_c k_10 k):FS:=⟨false,48,[(2,.pointer (some ⟨0,0,none⟩)),(3,.pointer (some ⟨1,0,none⟩)),(4,.pointer (some ⟨2,0,none⟩)),(5,.pointer (some ⟨3,0,none⟩)),(7,.slice (some ⟨5,0,none⟩) m c4),(9,.pointer (some ⟨6,0,none⟩)),(10,.pointer (some ⟨7,0,none⟩)),(11,.int .i64 ((k:Nat):Int))],[((wA .u8 32 K),(27,(0,0))),((wA .u8 12 N),(28,(0,0))),((wA .u8 16 []),(22,(0,0))),((wA .u8 32 []),(27,(0,0))),((wA .u8 256 sbT),(53,(0,0))),((wA .u8 c4 (kyL K N 0 6)),(5,(0,0))),((wA .u8 16 (cpL (kyL K N 0 6) 0 k)),(22,(0,0))),((wA .u8 32 []),(27,(0,0)))]⟩
theorem dKy0i:dKyA_R [1,1,1,1,1,1,0,0] (dKyK k_10) .normal (fun z_=>∃(k_11:dKyL_c k_10 0),z_=dKyL k_11):=by
  have⟨hK,hN⟩:=id k_6
  have⟨hm,hc⟩:=id k_10
  exact rn_ev (yty.enm tabZ1 [mFirst] 0) dKyA_h mixed _ none [] [] 1 (fun j M=>by kernel_rfl) A0 ⟨⟨by omega⟩,rfl⟩
theorem dKy0j (hlt:k<16):dKyA_R [1,1,1,1,1,1,0,1,0,0] (dKyL k_11) .normal (fun z_=>∃(k_11:dKyL_c k_10 (k+1)),z_=dKyL k_11):=by
  have⟨hK,hN⟩:=id k_6
  have⟨hm,hc⟩:=id k_10
  have⟨hk⟩:=id k_11
  exact rn_ev (yty.enm tabZ1 [mFirst] 0) dKyA_h mixed _ none [some (.bool true),some (.int .u8 ((kyL K N 0 6).getD k 0)),some (.agg (wA .u8 16 (cpL (kyL K N 0 6) 0 (k+1)))),some (.int .i64 ((k+1:Nat):Int))] [(3,(decide (((k:Nat):Int)<16))=true),(6,((0:Int)≤((k:Nat):Int)∧(((k:Nat):Int):Int)<((m:Nat):Int))),(0,(((wA .u8 c4 (kyL K N 0 6))[(0+Int.toNat ((k:Nat):Int)*1)]? =some (.int .u8 ((kyL K N 0 6).getD k 0)))∧((kyL K N 0 6).getD k 0)=((kyL K N 0 6).getD k 0))),(0,(0≤((k:Nat):Int)∧((k:Nat):Int)<((16:Nat):Int))),(0,((0+Int.toNat ((k:Nat):Int)*1)<(wA .u8 16 (cpL (kyL K N 0 6) 0 k)).size∧(wA .u8 16 (cpL (kyL K N 0 6) 0 k)).setIfInBounds (0+Int.toNat ((k:Nat):Int)*1) (.int .u8 ((kyL K N 0 6).getD k 0))=(wA .u8 16 (cpL (kyL K N 0 6) 0 (k+1))))),(3,(IntKind.i64.wrap (((k:Nat):Int)+1))=((k+1:Nat):Int))] 1 (fun j M=>by kernel_rfl) (A1 (decide_eq_true (by omega)) (A1 (by(try simp only[Int.toNat_natCast,wA_size]);omega) (A1 ⟨(wA_get (by omega) (by omega)),rfl⟩ (A1 (by(try simp only[Int.toNat_natCast,wA_size]);omega) (A1 (cpL_put (by omega) (by rw[Int.toNat_natCast];omega) (by rw[Nat.zero_add])) (A1 (wi64 (by omega)) A0)))))) ⟨⟨by omega⟩,rfl⟩
abbrev dKyM (_:dKyI_c k_6 m c4):FS:=⟨false,48,[(2,.pointer (some ⟨0,0,none⟩)),(3,.pointer (some ⟨1,0,none⟩)),(4,.pointer (some ⟨2,0,none⟩)),(5,.pointer (some ⟨3,0,none⟩)),(7,.slice (some ⟨5,0,none⟩) m c4),(9,.pointer (some ⟨6,0,none⟩)),(10,.pointer (some ⟨7,0,none⟩))],[((wA .u8 32 K),(27,(0,0))),((wA .u8 12 N),(28,(0,0))),((wA .u8 16 []),(22,(0,0))),((wA .u8 32 []),(27,(0,0))),((wA .u8 256 sbT),(53,(0,0))),((wA .u8 c4 (kyL K N 0 6)),(5,(0,0))),((wA .u8 16 (kyL K N 0 2)),(22,(0,0))),((wA .u8 32 []),(27,(0,0)))]⟩
theorem dKy0k (hge:¬ k<16):dKyA_R [1,1,1,1,1,1,0,1,0,0] (dKyL k_11) (.exit 2) (fun z_=>z_=dKyM k_10):=by
  have⟨hK,hN⟩:=id k_6
  have⟨hm,hc⟩:=id k_10
  have⟨hk⟩:=id k_11
  exact rn_ev (yty.enm tabZ1 [mFirst] 0) dKyA_h mixed (⟨false,48,[(2,.pointer (some ⟨0,0,none⟩)),(3,.pointer (some ⟨1,0,none⟩)),(4,.pointer (some ⟨2,0,none⟩)),(5,.pointer (some ⟨3,0,none⟩)),(7,.slice (some ⟨5,0,none⟩) m c4),(9,.pointer (some ⟨6,0,none⟩)),(10,.pointer (some ⟨7,0,none⟩))],[((wA .u8 32 K),(27,(0,0))),((wA .u8 12 N),(28,(0,0))),((wA .u8 16 []),(22,(0,0))),((wA .u8 32 []),(27,(0,0))),((wA .u8 256 sbT),(53,(0,0))),((wA .u8 c4 (kyL K N 0 6)),(5,(0,0))),((wA .u8 16 (cpL (kyL K N 0 6) 0 k)),(22,(0,0))),((wA .u8 32 []),(27,(0,0)))]⟩) none [some (.bool false)] [(3,(decide (((k:Nat):Int)<16))=false)] 0 (fun j M=>by kernel_rfl) (A1 (decide_eq_false (by omega)) A0) (by
    delta dKyM
    rw[show k=16 by omega,cp_a]
    try kernel_rfl)
theorem dKy0l:dKyA_R [1,1,1,1,1,1,0,1] (dKyL k_11) .normal (fun z_=>∃(k:Nat),z_=dKyM k_10):=by
  refine rn_loop (k:=2) (w:= [1,1,1,1,1,1,0,1]) (by kernel_rfl) (fun n_ z_=>∃(k:Nat) (k_11:dKyL_c k_10 k),n_=16 - k∧z_=dKyL k_11) _ ⟨_,k_11,rfl,rfl⟩ ?_
  rintro n_ _ ⟨k,k_11,hn_,rfl⟩
  have⟨hK,hN⟩:=k_6
  have⟨hm,hc⟩:=k_10
  have⟨hk⟩:=k_11
  by_cases hlt:k<16
  · exact(dKy0j hlt).x fun _ ⟨k_11,e_⟩=> .inl ⟨rfl,16 - (k+1),by omega,⟨_,k_11,rfl,e_⟩⟩
  · exact(dKy0k hlt).x fun _ e_=> .inr ⟨rfl,⟨k,e_⟩⟩
theorem dKy0m:dKyA_R [1,1,1,1,1,1,0] (dKyK k_10) .normal (fun z_=>∃(k1:Nat),z_=dKyM k_10):=by
  refine rn_seq (w:= [1,1,1,1,1,1,0]) (by kernel_rfl) dKy0i ?_
  rintro _ ⟨k_11,rfl⟩
  exact dKy0l
structure dKyN_c (_:dKyI_c k_6 m c4) (k:Nat):Prop where
  hk:k≤32
variable {k_12:dKyN_c k_10 k}
abbrev dKyN (_:dKyN_c k_10 k):FS:=⟨false,48,[(2,.pointer (some ⟨0,0,none⟩)),(3,.pointer (some ⟨1,0,none⟩)),(4,.pointer (some ⟨2,0,none⟩)),(5,.pointer (some ⟨3,0,none⟩)),(7,.slice (some ⟨5,0,none⟩) m c4),(9,.pointer (some ⟨6,0,none⟩)),(10,.pointer (some ⟨7,0,none⟩)),(12,.int .i64 ((k:Nat):Int))],[((wA .u8 32 K),(27,(0,0))),((wA .u8 12 N),(28,(0,0))),((wA .u8 16 []),(22,(0,0))),((wA .u8 32 []),(27,(0,0))),((wA .u8 256 sbT),(53,(0,0))),((wA .u8 c4 (kyL K N 0 6)),(5,(0,0))),((wA .u8 16 (kyL K N 0 2)),(22,(0,0))),((wA .u8 32 (cpL (kyL K N 0 6) 16 k)),(27,(0,0)))]⟩
theorem dKy0n:dKyA_R [1,1,1,1,1,1,1,0,0] (dKyM k_10) .normal (fun z_=>∃(k_12:dKyN_c k_10 0),z_=dKyN k_12):=by
  have⟨hK,hN⟩:=id k_6
  have⟨hm,hc⟩:=id k_10
  exact rn_ev (yty.enm tabZ1 [mFirst] 0) dKyA_h mixed _ none [] [] 1 (fun j M=>by kernel_rfl) A0 ⟨⟨by omega⟩,rfl⟩
theorem dKy0o (hlt:k<32):dKyA_R [1,1,1,1,1,1,1,0,1,0,0] (dKyN k_12) .normal (fun z_=>∃(k_12:dKyN_c k_10 (k+1)),z_=dKyN k_12):=by
  have⟨hK,hN⟩:=id k_6
  have⟨hm,hc⟩:=id k_10
  have⟨hk⟩:=id k_12
  exact rn_ev (yty.enm tabZ1 [mFirst] 0) dKyA_h mixed _ none [some (.bool true),some (.int .i64 ((16+k:Nat):Int)),some (.int .u8 ((kyL K N 0 6).getD (16+k) 0)),some (.agg (wA .u8 32 (cpL (kyL K N 0 6) 16 (k+1)))),some (.int .i64 ((k+1:Nat):Int))] [(3,(decide (((k:Nat):Int)<32))=true),(7,(IntKind.i64.wrap (16+((k:Nat):Int)))=((16+k:Nat):Int)),(0,((0:Int)≤((16+k:Nat):Int)∧(((16+k:Nat):Int):Int)<((m:Nat):Int))),(0,(((wA .u8 c4 (kyL K N 0 6))[(0+Int.toNat ((16+k:Nat):Int)*1)]? =some (.int .u8 ((kyL K N 0 6).getD (16+k) 0)))∧((kyL K N 0 6).getD (16+k) 0)=((kyL K N 0 6).getD (16+k) 0))),(0,(0≤((k:Nat):Int)∧((k:Nat):Int)<((32:Nat):Int))),(0,((0+Int.toNat ((k:Nat):Int)*1)<(wA .u8 32 (cpL (kyL K N 0 6) 16 k)).size∧(wA .u8 32 (cpL (kyL K N 0 6) 16 k)).setIfInBounds (0+Int.toNat ((k:Nat):Int)*1) (.int .u8 ((kyL K N 0 6).getD (16+k) 0))=(wA .u8 32 (cpL (kyL K N 0 6) 16 (k+1))))),(3,(IntKind.i64.wrap (((k:Nat):Int)+1))=((k+1:Nat):Int))] 1 (fun j M=>by kernel_rfl) (A1 (decide_eq_true (by omega)) (A1 (wi64 (by omega)) (A1 (by(try simp only[Int.toNat_natCast,wA_size]);omega) (A1 ⟨(wA_get (by omega) (by omega)),rfl⟩ (A1 (by(try simp only[Int.toNat_natCast,wA_size]);omega) (A1 (cpL_put (by omega) (by rw[Int.toNat_natCast];omega) rfl) (A1 (wi64 (by omega)) A0))))))) ⟨⟨by omega⟩,rfl⟩
abbrev dKyO (_:dKyI_c k_6 m c4):FS:=⟨false,48,[(2,.pointer (some ⟨0,0,none⟩)),(3,.pointer (some ⟨1,0,none⟩)),(4,.pointer (some ⟨2,0,none⟩)),(5,.pointer (some ⟨3,0,none⟩)),(7,.slice (some ⟨5,0,none⟩) m c4),(9,.pointer (some ⟨6,0,none⟩)),(10,.pointer (some ⟨7,0,none⟩))],[((wA .u8 32 K),(27,(0,0))),((wA .u8 12 N),(28,(0,0))),((wA .u8 16 []),(22,(0,0))),((wA .u8 32 []),(27,(0,0))),((wA .u8 256 sbT),(53,(0,0))),((wA .u8 c4 (kyL K N 0 6)),(5,(0,0))),((wA .u8 16 (kyL K N 0 2)),(22,(0,0))),((wA .u8 32 (kyL K N 2 4)),(27,(0,0)))]⟩
theorem dKy0p (hge:¬ k<32):dKyA_R [1,1,1,1,1,1,1,0,1,0,0] (dKyN k_12) (.exit 4) (fun z_=>z_=dKyO k_10):=by
  have⟨hK,hN⟩:=id k_6
  have⟨hm,hc⟩:=id k_10
  have⟨hk⟩:=id k_12
  exact rn_ev (yty.enm tabZ1 [mFirst] 0) dKyA_h mixed (⟨false,48,[(2,.pointer (some ⟨0,0,none⟩)),(3,.pointer (some ⟨1,0,none⟩)),(4,.pointer (some ⟨2,0,none⟩)),(5,.pointer (some ⟨3,0,none⟩)),(7,.slice (some ⟨5,0,none⟩) m c4),(9,.pointer (some ⟨6,0,none⟩)),(10,.pointer (some ⟨7,0,none⟩))],[((wA .u8 32 K),(27,(0,0))),((wA .u8 12 N),(28,(0,0))),((wA .u8 16 []),(22,(0,0))),((wA .u8 32 []),(27,(0,0))),((wA .u8 256 sbT),(53,(0,0))),((wA .u8 c4 (kyL K N 0 6)),(5,(0,0))),((wA .u8 16 (kyL K N 0 2)),(22,(0,0))),((wA .u8 32 (cpL (kyL K N 0 6) 16 k)),(27,(0,0)))]⟩) none [some (.bool false)] [(3,(decide (((k:Nat):Int)<32))=false)] 0 (fun j M=>by kernel_rfl) (A1 (decide_eq_false (by omega)) A0) (by
    delta dKyO
    rw[show k=32 by omega,cp_b]
    try kernel_rfl)
theorem dKy0q:dKyA_R [1,1,1,1,1,1,1,0,1] (dKyN k_12) .normal (fun z_=>∃(k:Nat),z_=dKyO k_10):=by
  refine rn_loop (k:=4) (w:= [1,1,1,1,1,1,1,0,1]) (by kernel_rfl) (fun n_ z_=>∃(k:Nat) (k_12:dKyN_c k_10 k),n_=32 - k∧z_=dKyN k_12) _ ⟨_,k_12,rfl,rfl⟩ ?_
  rintro n_ _ ⟨k,k_12,hn_,rfl⟩
  have⟨hK,hN⟩:=k_6
  have⟨hm,hc⟩:=k_10
  have⟨hk⟩:=k_12
  by_cases hlt:k<32
  · exact(dKy0o hlt).x fun _ ⟨k_12,e_⟩=> .inl ⟨rfl,32 - (k+1),by omega,⟨_,k_12,rfl,e_⟩⟩
  · exact(dKy0p hlt).x fun _ e_=> .inr ⟨rfl,⟨k,e_⟩⟩
theorem dKy0r:dKyA_R [1,1,1,1,1,1,1,0] (dKyM k_10) .normal (fun z_=>∃(k1:Nat),z_=dKyO k_10):=by
  refine rn_seq (w:= [1,1,1,1,1,1,1,0]) (by kernel_rfl) dKy0n ?_
  rintro _ ⟨k_12,rfl⟩
  exact dKy0q
structure dKyP_c (_:dKyA_c K N) (m c4:Nat):Prop where
variable {k_13:dKyP_c k_6 m c4}
abbrev dKyP (_:dKyP_c k_6 m c4):FS:=⟨false,48,[(4,.pointer (some ⟨2,0,none⟩)),(5,.pointer (some ⟨3,0,none⟩))],[((wA .u8 32 K),(27,(0,0))),((wA .u8 12 N),(28,(0,0))),((wA .u8 16 (kyL K N 0 2)),(22,(0,0))),((wA .u8 32 (kyL K N 2 4)),(27,(0,0))),((wA .u8 256 sbT),(53,(0,0))),((wA .u8 c4 (kyL K N 0 6)),(5,(0,0))),((wA .u8 16 (kyL K N 0 2)),(22,(0,0))),((wA .u8 32 (kyL K N 2 4)),(27,(0,0)))]⟩
theorem dKy0s:dKyA_R [1,1,1,1,1,1,1,1] (dKyO k_10) .ret (fun z_=>∃(k_13:dKyP_c k_6 m c4),z_=dKyP k_13):=by
  exact rn_ev (yty.enm tabZ1 [mFirst] 0) dKyA_h mixed _ none [] [(4,((wA .u8 16 (kyL K N 0 2)).all (fun v=>v.oneCell')=true)),(0,((wA .u8 32 (kyL K N 2 4)).all (fun v=>v.oneCell')=true))] 0 (fun j M=>by kernel_rfl) (A1 (wA_one _ _ _) (A1 (wA_one _ _ _) A0)) ⟨⟨⟩,rfl⟩
theorem dKyu':dKyA_R [] (dKyA k_6) .ret (fun z_=>∃(i13 m13 c413:Nat) (Y13:List Int) (k16 k17:Nat) (k_13:dKyP_c k_6 m13 c413),z_=dKyP k_13):=by
  refine rn_seq (w:= []) (by kernel_rfl) dKy0 ?_
  rintro _ rfl
  refine rn_seq (w:= [1]) (by kernel_rfl) dKy1 ?_
  rintro _ rfl
  refine rn_seq (w:= [1,1]) (by kernel_rfl) dKy2 ?_
  rintro _ rfl
  refine rn_seq (w:= [1,1,1]) (by kernel_rfl) dKy0f ?_
  rintro _ ⟨i13,m13,c413,Y13,k_10,rfl⟩
  refine rn_seq (w:= [1,1,1,1]) (by kernel_rfl) dKy0g ?_
  rintro _ rfl
  refine rn_seq (w:= [1,1,1,1,1]) (by kernel_rfl) dKy0h ?_
  rintro _ rfl
  refine rn_seq (w:= [1,1,1,1,1,1]) (by kernel_rfl) dKy0m ?_
  rintro _ ⟨k16,rfl⟩
  refine rn_seq (w:= [1,1,1,1,1,1,1]) (by kernel_rfl) dKy0r ?_
  rintro _ ⟨k17,rfl⟩
  exact(dKy0s).mono fun _ ⟨k_13,e_⟩=>⟨i13,m13,c413,Y13,k16,k17,k_13,e_⟩
abbrev dKyA_s (K N:List Int) (j:Nat→Value):List Value:=([.agg (wA .u8 32 K),.agg (wA .u8 12 N)] ++ (JU 46))
abbrev dKyA_m (K N:List Int):List Mb:= []
abbrev dKyP_s (K N:List Int) (m c4:Nat) (j:Nat→Value):List Value:=(J j 0 4 ++ ([.pointer (some ⟨2,0,none⟩),.pointer (some ⟨3,0,none⟩)] ++ (J j 6 42)))
abbrev dKyP_m (K N:List Int) (m c4:Nat):List Mb:= [((wA .u8 32 K),(27,(0,0))),((wA .u8 12 N),(28,(0,0))),((wA .u8 16 (kyL K N 0 2)),(22,(0,0))),((wA .u8 32 (kyL K N 2 4)),(27,(0,0))),((wA .u8 256 sbT),(53,(0,0))),((wA .u8 c4 (kyL K N 0 6)),(5,(0,0))),((wA .u8 16 (kyL K N 0 2)),(22,(0,0))),((wA .u8 32 (kyL K N 2 4)),(27,(0,0)))]
theorem dKyu (K N:List Int) (j:Nat→Value) (hK:By K) (hN:By N)  {c0:Prop} {ch0:List (Option Value)}:Runs Try.prog (cAt [] (bdy Try.f15)) ⟨dKyA_s K N j,dKyA_m K N,c0,ch0⟩ (fun e s=>e= .ret∧∃(i13:Nat) (m13:Nat) (c413:Nat) (Y13:List Int) (k16:Nat) (k17:Nat) (j:Nat→Value) (c:Prop) (ch:List (Option Value)),s=⟨dKyP_s K N m13 c413 j,dKyP_m K N m13 c413,c,ch⟩) 0:=by
  refine(Rn.old (dKyu' (k_6:=(⟨hK,hN⟩:dKyA_c K N))) j (by kernel_rfl)).mono ?_
  rintro e s ⟨rfl,_,⟨i13,m13,c413,Y13,k16,k17,k_13,rfl⟩,j,c,ch,rfl⟩
  exact⟨rfl,i13,m13,c413,Y13,k16,k17,j,c,ch,by kernel_rfl⟩
theorem dKy_c (K N:List Int) (hK:By K) (hN:By N):Pure Try.prog 15 #[.agg (wA .u8 32 K),.agg (wA .u8 12 N)] (.tuple #[.agg (wA .u8 16 (kyL K N 0 2)),.agg (wA .u8 32 (kyL K N 2 4))]):=by
  refine pure_runs (E:=(yty.enm tabZ1 [mFirst] 0)) Try.func15 (c:=bdy Try.f15) (by kernel_rfl) (args:= [.agg (wA .u8 32 K),.agg (wA .u8 12 N)]) (by kernel_rfl) (K:=fun e s=>e= .ret∧resS (yty.enm tabZ1 [mFirst] 0) s Try.f15.results.toList=some [.agg (wA .u8 16 (kyL K N 0 2)),.agg (wA .u8 32 (kyL K N 2 4))]) ?_ (fun e s h=>⟨h.1,_,h.2,rfl⟩)
  refine(dKyu K N (fun _=>undef) hK hN).mono ?_
  rintro e s ⟨rfl,i,m,c4,Y,k,k2,j,c,ch,rfl⟩
  exact⟨rfl,by kernel_rfl⟩
def pdk:Entry Try.prog:=entLL Try.func15 (by kernel_rfl) (by kernel_rfl) 32 12 (fun K N=> .tuple #[.agg (wA .u8 16 (kyL K N 0 2)),.agg (wA .u8 32 (kyL K N 2 4))]) (fun K N h1 h2=>dKy_c K N h1 h2)
end Go.Proofs.Ythldpfindbhkeaa

set_option linter.unusedSimpArgs false
set_option linter.unusedVariables false
/-! siv: POLYVAL and keys are the document's. -/
namespace Go.Proofs.Ythldpfindbhkeaa
open Go.RowKit Go.Ev
theorem absL_h (H L:List Int):absL (dL8 (wA .u8 16 H)) [] L=absL H [] L:=by rw[← absL_w1,absL_w]
theorem bL_by {a:Array Value} {p r:Nat} (h:bytesAt a p r):By (bL a p r):=fun i=>by
  rw[bL_at]
  split
  · rename_i hi
    exact(h i hi).2
  · exact⟨by decide,by decide⟩
theorem Bk.by {a:Array Value} {bp:Option Addr} {r q:Nat} (h:Bk a bp r q):By (bO a bp r):=by
  obtain⟨_,⟨rfl,rfl,_⟩|⟨p,rfl,hb,_⟩⟩:=h
  · exact by_nil
  · exact bL_by hb
theorem BkOk.bk {a:Array Value} {t:Tq} {bp:Option Addr} {r q:Nat} (h:BkOk [(a,t)] bp r q):Bk a bp r q∧bOf [(a,t)] bp r=bO a bp r:=by
  obtain⟨hq,⟨rfl,rfl,h0⟩|⟨i,o,b,u,rfl,hm,hb,hz⟩⟩:=h
  · exact⟨⟨hq,.inl ⟨rfl,rfl,h0⟩⟩,rfl⟩
  · cases i with
    | zero =>
      simp only[List.getElem?_cons_zero,Option.some.injEq,Prod.mk.injEq] at hm
      obtain⟨rfl,rfl⟩:=hm
      exact⟨⟨hq,.inr ⟨o,rfl,hb,hz⟩⟩,rfl⟩
    |succ i=>simp at hm
theorem BkOk.by {mem:List Mb} {bp:Option Addr} {r q:Nat} (h:BkOk mem bp r q):By (bOf mem bp r):=by
  obtain⟨_,⟨rfl,rfl,_⟩|⟨i,o,a,t,rfl,hm,hb,_⟩⟩:=h
  · exact by_nil
  · simp only [bOf, hm]
    exact bL_by hb
section
variable {P:Program} {f:FuncId} {fn:Func} (hf:P.funcs[f]? =some fn) (hn:(fn.name == "runtime.NumGoroutine")=false) (hb:fn.body.isNone=false)
def entHB (F : List Int → List Int → Value) (h : ∀ a t H bp r q, By H → Bk a bp r q → r ≤ 1000000 → Reads P f [(a, t)] [.agg (wA .u8 16 H), .slice bp r q] (F H (bO a bp r))) : Entry P where
  f:=f
  g := fun mem xs => match mem, xs with
    |m :: g,[.agg x,.slice bp r q]=>some (F (dL8 x) (bOf (m :: g) bp r),((x=wA .u8 16 (dL8 x)∧By (dL8 x))∧BkOk (m :: g) bp r q∧r≤1000000))
    |_,_=>none
  ok := fun mem xs v c e hc w β hw _ => by
    split at e
    · rename_i m g x bp r q
      simp only[Option.some.injEq,Prod.mk.injEq] at e
      obtain⟨rfl,rfl⟩:=e
      obtain⟨⟨h1,h2⟩,hB,hl⟩:=hc
      obtain⟨i,y,q1,hm,hr,hB1⟩:=hB.lift 0
      obtain⟨a,t⟩:=y
      obtain⟨B1,E1⟩:=hB1 [(a,t)] rfl
      have := h a t (dL8 x) q1 r q h2 B1.bk.1 hl w (fun _ => β i) (fun k z hz => by
        match k,hz with
        | 0, hz =>
          simp only[List.getElem?_cons_zero,Option.some.injEq] at hz
          subst hz
          exact hw i _ hm
        |k+1,hz=>simp at hz) (fun i hi=>by simp at hi)
      rw[← B1.bk.2,E1,← h1] at this
      simp only[List.map_cons,List.map_nil,hr β (fun _=>β i) rfl] at this
      exact this
    · cases e
  call:=call_of hf hn hb
end
def sPvA_h (i:Nat):Hn:=⟨0,[],[],[],[]⟩
abbrev sPvA_R (w:List Nat) (S:FS) (e:Exit) (K:FS→Prop):Prop:=Rn Try.prog (cAt w (bdy Try.f13)) S e K 1
structure sPvA_c (a:Array Value) (t:Tq) (H:List Int) (bp:Option Addr) (l cp:Nat):Prop where
  hH:By H
  hb:BkOk [(a,t)] bp l cp
  hl:l≤1000000
variable {a:Array Value} {t:Tq} {H:List Int} {bp:Option Addr} {l cp:Nat} {k_1:sPvA_c a t H bp l cp}
abbrev sPvA (_:sPvA_c a t H bp l cp):FS:=⟨true,9,[(0,.agg (wA .u8 16 H)),(1,.slice bp l cp)],[(a,t)]⟩
structure sPvB_c (a:Array Value) (t:Tq) (H:List Int) (bp:Option Addr) (l cp:Nat) (S:List Int):Prop where
  hS:S=absL H [] (bOf [(a,t)] bp l)
variable {S:List Int} {k_2:sPvB_c a t H bp l cp S}
abbrev sPvB (_:sPvB_c a t H bp l cp S):FS:=⟨false,9,[(4,.pointer (some ⟨2,0,none⟩))],[(a,t),((wA .u8 16 H),(22,(0,0))),((wA .u8 16 S),(22,(0,0)))]⟩
theorem sPv0':sPvA_R [] (sPvA k_1) .ret (fun z_=>∃(k_2:sPvB_c a t H bp l cp (absL (dL8 (wA .u8 16 H)) (dL8 (wA .u8 16 [])) (bOf [(a,t),((wA .u8 16 H),(22,(0,0))),((wA .u8 16 []),(22,(0,0)))] bp l))),z_=sPvB k_2):=by
  have⟨hH,hb,hl⟩:=id k_1
  exact rn_ev (yty.enf tabW2 1) sPvA_h mixed _ none [] [(6,((((wA .u8 16 [])=wA .u8 16 (dL8 (wA .u8 16 []))∧By (dL8 (wA .u8 16 [])))∧((wA .u8 16 H)=wA .u8 16 (dL8 (wA .u8 16 H))∧By (dL8 (wA .u8 16 H))))∧BkOk [(a,t),((wA .u8 16 H),(22,(0,0))),((wA .u8 16 []),(22,(0,0)))] bp l cp∧l≤1000000000)),(0,((wA .u8 16 (absL (dL8 (wA .u8 16 H)) (dL8 (wA .u8 16 [])) (bOf [(a,t),((wA .u8 16 H),(22,(0,0))),((wA .u8 16 []),(22,(0,0)))] bp l))).all (fun v=>v.oneCell')=true))] 0 (fun j M=>by kernel_rfl) (A1 ⟨⟨dq by_nil,dq hH⟩,(hb.app _).1,by omega⟩ (A1 (wA_one _ _ _) A0)) ⟨⟨by rw[absL_w];exact congrArg _ (hb.app [_,_]).2⟩,rfl⟩
abbrev sPvA_s (a:Array Value) (t:Tq) (H:List Int) (bp:Option Addr) (l cp:Nat) (j:Nat→Value):List Value:=([.agg (wA .u8 16 H),.slice bp l cp] ++ (JU 7))
abbrev sPvA_m (a:Array Value) (t:Tq) (H:List Int) (bp:Option Addr) (l cp:Nat):List Mb:= [(a,t)]
abbrev sPvB_s (a:Array Value) (t:Tq) (H:List Int) (bp:Option Addr) (l cp:Nat) (S:List Int) (j:Nat→Value):List Value:=(J j 0 4 ++ ([.pointer (some ⟨2,0,none⟩)] ++ (J j 5 4)))
abbrev sPvB_m (a:Array Value) (t:Tq) (H:List Int) (bp:Option Addr) (l cp:Nat) (S:List Int):List Mb:= [(a,t),((wA .u8 16 H),(22,(0,0))),((wA .u8 16 S),(22,(0,0)))]
theorem sPv0 (a:Array Value) (t:Tq) (H:List Int) (bp:Option Addr) (l cp:Nat) (j:Nat→Value) (hH:By H) (hb:BkOk [(a,t)] bp l cp) (hl:l≤1000000)  {c0:Prop} {ch0:List (Option Value)}:Runs Try.prog (cAt [] (bdy Try.f13)) ⟨sPvA_s a t H bp l cp j,sPvA_m a t H bp l cp,c0,ch0⟩ (fun e s=>e= .ret∧∃(j:Nat→Value) (c:Prop) (ch:List (Option Value)),((absL (dL8 (wA .u8 16 H)) (dL8 (wA .u8 16 [])) (bOf [(a,t),((wA .u8 16 H),(22,(0,0))),((wA .u8 16 []),(22,(0,0)))] bp l))=absL H [] (bOf [(a,t)] bp l))∧s=⟨sPvB_s a t H bp l cp (absL (dL8 (wA .u8 16 H)) (dL8 (wA .u8 16 [])) (bOf [(a,t),((wA .u8 16 H),(22,(0,0))),((wA .u8 16 []),(22,(0,0)))] bp l)) j,sPvB_m a t H bp l cp (absL (dL8 (wA .u8 16 H)) (dL8 (wA .u8 16 [])) (bOf [(a,t),((wA .u8 16 H),(22,(0,0))),((wA .u8 16 []),(22,(0,0)))] bp l)),c,ch⟩) 1:=by
  refine(Rn.old (sPv0' (k_1:=(⟨hH,hb,hl⟩:sPvA_c a t H bp l cp))) j (by kernel_rfl)).mono ?_
  rintro e s ⟨rfl,_,⟨k_2,rfl⟩,j,c,ch,rfl⟩
  have⟨x_hS⟩:=k_2
  exact⟨rfl,j,c,ch,x_hS,by kernel_rfl⟩
theorem sPv_c (a:Array Value) (t:Tq) (H:List Int) (bp:Option Addr) (l cp:Nat) (hH:By H) (hb:Bk a bp l cp) (hl:l≤1000000):Reads Try.prog 13 [(a,t)] [.agg (wA .u8 16 H),.slice bp l cp] (.agg (wA .u8 16 (absL H [] (bO a bp l)))):=by
  have ha: [Value.agg (wA .u8 16 H),.slice bp l cp].all (okp (1%big))=true:=by
    obtain⟨_,⟨rfl,rfl,_⟩|⟨p,rfl,_,_⟩⟩:=hb<;>kernel_rfl
  have hB:BkOk [(a,t)] bp l cp:=by
    obtain⟨hq,⟨rfl,rfl,h0⟩|⟨p,rfl,h1,h2⟩⟩:=hb
    · exact⟨hq,.inl ⟨rfl,rfl,h0⟩⟩
    · exact⟨hq,.inr ⟨0,p,a,t,rfl,rfl,h1,h2⟩⟩
  refine reads_runs (fk:=1) (yty.enf tabW2 1) Try.func13 (c:=bdy Try.f13) (by kernel_rfl) ⟨by rfl,by decide⟩ (args:= [.agg (wA .u8 16 H),.slice bp l cp]) ha (K:=fun e s=>e= .ret∧resS (yty.enf tabW2 1) s Try.f13.results.toList=some [.agg (wA .u8 16 (absL H [] (bO a bp l)))]) ?_ (fun e s h=>⟨h.1,_,h.2,rfl⟩)
  refine(sPv0 a t H bp l cp (fun _=>undef) hH hB hl).mono ?_
  rintro e s ⟨rfl,j,c,ch,hS,rfl⟩
  rw[← hB.bk.2,← hS]
  exact⟨rfl,by kernel_rfl⟩
def ppv:Entry Try.prog:=entHB Try.func13 (by kernel_rfl) (by kernel_rfl) (fun H N=> .agg (wA .u8 16 (absL H [] N))) (fun a t H bp r q h1 h2 h3=>sPv_c a t H bp r q h1 h2 h3)
def pdv9:Entry Try.prog:=entHB Try.func17 (by kernel_rfl) (by kernel_rfl) (fun H N=> .agg (wA .u8 16 (absL H [] N))) (fun a t H bp r q h1 h2 h3=>dPv_c a t H bp r q h1 h2 h2.by h3)
def tabQ9:List (Entry Try.prog):=ppv :: pdv9 :: pk9p :: pky :: pdk :: pk9 :: []
theorem lentB {mem:List Mb} {i:Nat} {N:List Int} {l c:Nat} {t:Tq} (hb:By N) (hl:N.length=l) (hc:(N ++ [77]).length≤c) (hm:mem[i]? =some (wA .u8 c (N ++ [77]),t)):BkOk mem (some ⟨i,0,none⟩) l c∧bOf mem (some ⟨i,0,none⟩) l=N:=by
  have hlc:l+1≤c:=by simpa[hl] using hc
  have hat:∀ j,j<l→(wA .u8 c (N ++ [77]))[j]? =some (.int .u8 (N.getD j 0)):=fun j hj=>by
    rw[wA_at (by omega),getD_app,if_pos (by omega)]
  have hi:∀ j,j<l→iat (wA .u8 c (N ++ [77])) j=N.getD j 0:=fun j hj=>by
    unfold iat
    rw[hat j hj]
  refine⟨⟨by omega,.inr ⟨i,0,_,_,rfl,hm,fun j hj=> ?_,by rw[wA_size];omega⟩⟩,?_⟩
  · rw [Nat.zero_add, hi j hj]
    exact⟨hat j hj,hb j⟩
  · simp only [bOf, hm]
    apply List.ext_getElem
    · rw[bL_len,hl]
    · intro j h1 h2
      rw[bL_len] at h1
      have:=bL_at (a:=wA .u8 c (N ++ [77])) (p:=0) (r:=l) (i:=j)
      rw[if_pos h1,Nat.zero_add,hi j h1,List.getD_eq_getElem?_getD,List.getD_eq_getElem?_getD,List.getElem?_eq_getElem (by rw[bL_len];exact h1),List.getElem?_eq_getElem h2] at this
      exact this
theorem nk32_lt {V:List Int} (hV:By V):nk (fun i=>(V.getD i 0).toNat) 32<256 ^ 32:=nk_lt (fun i=>(byNq hV i).2) 32
theorem by_is {V:List Int} (hV:By V):byD.is (wA .u8 32 V):=by
  refine⟨((nk (fun i=>(V.getD i 0).toNat) 32:Nat):Int),?_,?_⟩
  · have h := nk32_lt hV
    rw[show(256:Nat) ^ 32=115792089237316195423570985008687907853269984665640564039457584007913129639936 by decide] at h
    exact⟨by omega,by omega⟩
  · refine (wA_ext (byK_size _ 32) fun i hi => ?_).symm
    show(byC _)[i]? =_
    rw[byC_at _ i hi]
    have h:=nk_dig (f:=fun i=>(V.getD i 0).toNat) (fun i=>(byNq hV i).2) (k:=32) hi
    unfold byt
    have e:(256:Int) ^ i=((256 ^ i:Nat):Int):=by simp
    rw[e,(byNq hV i).1,← h]
    rfl
def sLpsA_h (i:Nat):Hn:=if i=7 then⟨24,[],[],[],[]⟩ else⟨0,[],[],[],[]⟩
abbrev sLpsA_R (w:List Nat) (S:FS) (e:Exit) (K:FS→Prop):Prop:=Rn Try.prog (cAt w (bdy Try.f4)) S e K 1
structure sLpsA_c (a:Array Value) (t:Tq) (bp:Option Addr) (l cp:Nat) (H K N X:List Int):Prop where
  hH:By H
  hK:By K
  hN:By N
  hb:BkOk [(a,t)] bp l cp
  hX:bOf [(a,t)] bp l=X
variable {K N X:List Int} {k_3:sLpsA_c a t bp l cp H K N X}
abbrev sLpsA (_:sLpsA_c a t bp l cp H K N X):FS:=⟨true,59,[(0,.agg (wA .u8 16 H)),(1,.slice bp l cp),(2,.agg (wA .u8 32 K)),(3,.agg (wA .u8 12 N))],[(a,t)]⟩
structure sLpsB_c (a:Array Value) (t:Tq) (bp:Option Addr) (l cp:Nat) (H K N X:List Int):Prop where
variable {k_4:sLpsB_c a t bp l cp H K N X}
abbrev sLpsB (_:sLpsB_c a t bp l cp H K N X):FS:=⟨false,59,[(8,.bool true)],[(a,t),((wA .u8 16 H),(22,(0,0))),((wA .u8 32 K),(27,(0,0))),((wA .u8 12 N),(28,(0,0)))]⟩
theorem sLpsL' (hlong:300<l):sLpsA_R [] (sLpsA k_3) .ret (fun z_=>∃(k_4:sLpsB_c a t bp l cp H K N X),z_=sLpsB k_4):=by
  have⟨hH,hK,hN,hb,hX⟩:=id k_3
  exact rn_ev (yty.enf tabQ9 1) sLpsA_h mixed _ none [some (.bool true)] [(7,(decide (300<((l:Nat):Int)))=true)] 2 (fun j M=>by kernel_rfl) (A1 (decide_eq_true (by omega)) A0) ⟨⟨⟩,rfl⟩
abbrev sLpsA_s (a:Array Value) (t:Tq) (bp:Option Addr) (l cp:Nat) (H K N X:List Int) (j:Nat→Value):List Value:=([.agg (wA .u8 16 H),.slice bp l cp,.agg (wA .u8 32 K),.agg (wA .u8 12 N)] ++ (JU 55))
abbrev sLpsA_m (a:Array Value) (t:Tq) (bp:Option Addr) (l cp:Nat) (H K N X:List Int):List Mb:= [(a,t)]
abbrev sLpsB_s (a:Array Value) (t:Tq) (bp:Option Addr) (l cp:Nat) (H K N X:List Int) (j:Nat→Value):List Value:=(J j 0 8 ++ ([.bool true] ++ (J j 9 50)))
abbrev sLpsB_m (a:Array Value) (t:Tq) (bp:Option Addr) (l cp:Nat) (H K N X:List Int):List Mb:= [(a,t),((wA .u8 16 H),(22,(0,0))),((wA .u8 32 K),(27,(0,0))),((wA .u8 12 N),(28,(0,0)))]
theorem sLpsL (a:Array Value) (t:Tq) (bp:Option Addr) (l cp:Nat) (H K N X:List Int) (j:Nat→Value) (hH:By H) (hK:By K) (hN:By N) (hb:BkOk [(a,t)] bp l cp) (hX:bOf [(a,t)] bp l=X) (hlong:300<l) {c0:Prop} {ch0:List (Option Value)}:Runs Try.prog (cAt [] (bdy Try.f4)) ⟨sLpsA_s a t bp l cp H K N X j,sLpsA_m a t bp l cp H K N X,c0,ch0⟩ (fun e s=>e= .ret∧∃(j:Nat→Value) (c:Prop) (ch:List (Option Value)),s=⟨sLpsB_s a t bp l cp H K N X j,sLpsB_m a t bp l cp H K N X,c,ch⟩) 1:=by
  refine(Rn.old (sLpsL' (k_3:=(⟨hH,hK,hN,hb,hX⟩:sLpsA_c a t bp l cp H K N X)) hlong) j (by kernel_rfl)).mono ?_
  rintro e s ⟨rfl,_,⟨k_4,rfl⟩,j,c,ch,rfl⟩
  exact⟨rfl,j,c,ch,by kernel_rfl⟩
structure sLpsC_c (_:sLpsA_c a t bp l cp H K N X):Prop where
  hl:l≤300
  hXl:X.length=l
  hXb:By X
variable {k_5:sLpsC_c k_3}
abbrev sLpsC (_:sLpsC_c k_3):FS:=⟨true,59,[(0,.agg (wA .u8 16 H)),(1,.slice bp l cp),(2,.agg (wA .u8 32 K)),(3,.agg (wA .u8 12 N))],[(a,t)]⟩
abbrev sLpsD (_:sLpsC_c k_3):FS:=⟨false,59,[(1,.slice bp l cp),(4,.pointer (some ⟨1,0,none⟩)),(6,.pointer (some ⟨2,0,none⟩)),(7,.pointer (some ⟨3,0,none⟩))],[(a,t),((wA .u8 16 H),(22,(0,0))),((wA .u8 32 K),(27,(0,0))),((wA .u8 12 N),(28,(0,0)))]⟩
theorem sLps0:sLpsA_R [0] (sLpsC k_5) .normal (fun z_=>z_=sLpsD k_5):=by
  exact rn_ev (yty.enf tabQ9 1) sLpsA_h mixed _ none [] [] 1 (fun j M=>by kernel_rfl) A0 rfl
theorem sLps1:sLpsA_R [1,0] (sLpsD k_5) .normal (fun z_=>z_=sLpsD k_5):=by
  have⟨hH,hK,hN,hb,hX⟩:=id k_3
  have⟨hl,hXl,hXb⟩:=id k_5
  exact rn_ev (yty.enf tabQ9 1) sLpsA_h mixed _ none [some (.bool false)] [(5,(decide (300<((l:Nat):Int)))=false)] 0 (fun j M=>by kernel_rfl) (A1 (decide_eq_false (by omega)) A0) rfl
structure sLpsE_c (_:sLpsC_c k_3) (c9:Nat):Prop where
  hc:(X ++ [77]).length≤c9
variable {c9:Nat} {k_6:sLpsE_c k_5 c9}
abbrev sLpsE (_:sLpsE_c k_5 c9):FS:=⟨false,59,[(1,.slice bp l cp),(4,.pointer (some ⟨1,0,none⟩)),(6,.pointer (some ⟨2,0,none⟩)),(7,.pointer (some ⟨3,0,none⟩)),(9,.slice (some ⟨4,0,none⟩) l c9)],[(a,t),((wA .u8 16 H),(22,(0,0))),((wA .u8 32 K),(27,(0,0))),((wA .u8 12 N),(28,(0,0))),((wA .u8 c9 (X ++ [77])),(5,(0,0)))]⟩
theorem sLps2:sLpsA_R [1,1,0] (sLpsD k_5) .normal (fun z_=>∃(k1:Nat) (k_6:sLpsE_c k_5 k1),z_=sLpsE k_6):=by
  have⟨hH,hK,hN,hb,hX⟩:=id k_3
  have⟨hl,hXl,hXb⟩:=id k_5
  refine rn_reg none (by kernel_rfl) fun j c0 ch0=> ?_
  have hM1:MakesA Try.prog 12 [(a,t),((wA .u8 16 H),(22,(0,0))),((wA .u8 32 K),(27,(0,0))),((wA .u8 12 N),(28,(0,0)))] [.slice bp l cp] .u8 l (X ++ [77]) 5 0:=(le9_c (by have h:=hb.app [((wA .u8 16 H),(22,(0,0))),((wA .u8 32 K),(27,(0,0))),((wA .u8 12 N),(28,(0,0)))];have h2:=h.1.src;rw[h.2,hX] at h2;exact h2) hXl (by omega))
  refine rl_call (yty.enf tabQ9 1) (call_of Try.func12 (by kernel_rfl) (by kernel_rfl)) 1 [] [] 1 4 (some 20) hM1 (by kernel_rfl) A0 fun k1 c1_ e1_ hk1=> ?_
  exact rl_end (E:=(yty.enf tabQ9 1)) _ [] [] 1 (fun M=>by kernel_rfl) A0 ⟨k1,⟨hk1⟩,rfl⟩
structure sLpsF_c (_:sLpsE_c k_5 c9) (S:List Int):Prop where
  hS:S=absL H [] X
variable {k_7:sLpsF_c k_6 S}
abbrev sLpsF (_:sLpsF_c k_6 S):FS:=⟨false,59,[(1,.slice bp l cp),(4,.pointer (some ⟨1,0,none⟩)),(6,.pointer (some ⟨2,0,none⟩)),(7,.pointer (some ⟨3,0,none⟩)),(9,.slice (some ⟨4,0,none⟩) l c9),(10,.pointer (some ⟨5,0,none⟩))],[(a,t),((wA .u8 16 H),(22,(0,0))),((wA .u8 32 K),(27,(0,0))),((wA .u8 12 N),(28,(0,0))),((wA .u8 c9 (X ++ [77])),(5,(0,0))),((wA .u8 16 S),(22,(0,0)))]⟩
theorem sLps3:sLpsA_R [1,1,1,0] (sLpsE k_6) .normal (fun z_=>∃(k_7:sLpsF_c k_6 (absL (dL8 (wA .u8 16 H)) [] (bOf [(a,t),((wA .u8 16 H),(22,(0,0))),((wA .u8 32 K),(27,(0,0))),((wA .u8 12 N),(28,(0,0))),((wA .u8 c9 (X ++ [77])),(5,(0,0)))] (some ⟨4,0,none⟩) l))),z_=sLpsF k_7):=by
  have⟨hH,hK,hN,hb,hX⟩:=id k_3
  have⟨hl,hXl,hXb⟩:=id k_5
  have⟨hc⟩:=id k_6
  exact rn_ev (yty.enf tabQ9 1) sLpsA_h mixed _ none [] [(4,(((wA .u8 16 H)=wA .u8 16 (dL8 (wA .u8 16 H))∧By (dL8 (wA .u8 16 H)))∧BkOk [(a,t),((wA .u8 16 H),(22,(0,0))),((wA .u8 32 K),(27,(0,0))),((wA .u8 12 N),(28,(0,0))),((wA .u8 c9 (X ++ [77])),(5,(0,0)))] (some ⟨4,0,none⟩) l c9∧l≤1000000)),(0,((wA .u8 16 (absL (dL8 (wA .u8 16 H)) [] (bOf [(a,t),((wA .u8 16 H),(22,(0,0))),((wA .u8 32 K),(27,(0,0))),((wA .u8 12 N),(28,(0,0))),((wA .u8 c9 (X ++ [77])),(5,(0,0)))] (some ⟨4,0,none⟩) l))).all (fun v=>v.oneCell')=true))] 0 (fun j M=>by kernel_rfl) (A1 ⟨dq hH,(lentB (N:=X) (l:=l) hXb hXl hc rfl).1,by omega⟩ (A1 (wA_one _ _ _) A0)) ⟨⟨by rw[absL_h,(lentB (N:=X) (l:=l) hXb hXl hc rfl).2]⟩,rfl⟩
abbrev sLpsG (_:sLpsF_c k_6 S):FS:=⟨false,59,[(1,.slice bp l cp),(4,.pointer (some ⟨1,0,none⟩)),(6,.pointer (some ⟨2,0,none⟩)),(7,.pointer (some ⟨3,0,none⟩)),(9,.slice (some ⟨4,0,none⟩) l c9),(10,.pointer (some ⟨5,0,none⟩)),(11,.pointer (some ⟨6,0,none⟩)),(12,.pointer (some ⟨7,0,none⟩))],[(a,t),((wA .u8 16 H),(22,(0,0))),((wA .u8 32 K),(27,(0,0))),((wA .u8 12 N),(28,(0,0))),((wA .u8 c9 (X ++ [77])),(5,(0,0))),((wA .u8 16 S),(22,(0,0))),((wA .u8 16 (kyL (dL8 (wA .u8 32 K)) (dL8 (wA .u8 12 N)) 0 2)),(22,(0,0))),((wA .u8 32 (kyL (dL8 (wA .u8 32 K)) (dL8 (wA .u8 12 N)) 2 4)),(27,(0,0)))]⟩
theorem sLps4:sLpsA_R [1,1,1,1,0] (sLpsF k_7) .normal (fun z_=>z_=sLpsG k_7):=by
  have⟨hH,hK,hN,hb,hX⟩:=id k_3
  exact rn_ev (yty.enf tabQ9 1) sLpsA_h mixed _ none [] [(4,(((wA .u8 32 K)=wA .u8 32 (dL8 (wA .u8 32 K))∧By (dL8 (wA .u8 32 K)))∧((wA .u8 12 N)=wA .u8 12 (dL8 (wA .u8 12 N))∧By (dL8 (wA .u8 12 N))))),(6,((wA .u8 16 (kyL (dL8 (wA .u8 32 K)) (dL8 (wA .u8 12 N)) 0 2)).all (fun v=>v.oneCell')=true)),(0,((wA .u8 32 (kyL (dL8 (wA .u8 32 K)) (dL8 (wA .u8 12 N)) 2 4)).all (fun v=>v.oneCell')=true))] 0 (fun j M=>by kernel_rfl) (A1 ⟨dq hK,dq hN⟩ (A1 (wA_one _ _ _) (A1 (wA_one _ _ _) A0))) rfl
abbrev sLpsH (_:sLpsF_c k_6 S):FS:=⟨false,59,[(1,.slice bp l cp),(4,.pointer (some ⟨1,0,none⟩)),(6,.pointer (some ⟨2,0,none⟩)),(7,.pointer (some ⟨3,0,none⟩)),(9,.slice (some ⟨4,0,none⟩) l c9),(10,.pointer (some ⟨5,0,none⟩)),(11,.pointer (some ⟨6,0,none⟩)),(12,.pointer (some ⟨7,0,none⟩)),(13,.pointer (some ⟨8,0,none⟩)),(14,.pointer (some ⟨9,0,none⟩))],[(a,t),((wA .u8 16 H),(22,(0,0))),((wA .u8 32 K),(27,(0,0))),((wA .u8 12 N),(28,(0,0))),((wA .u8 c9 (X ++ [77])),(5,(0,0))),((wA .u8 16 S),(22,(0,0))),((wA .u8 16 (kyL (dL8 (wA .u8 32 K)) (dL8 (wA .u8 12 N)) 0 2)),(22,(0,0))),((wA .u8 32 (kyL (dL8 (wA .u8 32 K)) (dL8 (wA .u8 12 N)) 2 4)),(27,(0,0))),((wA .u8 16 (kyL (dL8 (wA .u8 32 K)) (dL8 (wA .u8 12 N)) 0 2)),(22,(0,0))),((wA .u8 32 (kyL (dL8 (wA .u8 32 K)) (dL8 (wA .u8 12 N)) 2 4)),(27,(0,0)))]⟩
theorem sLps5:sLpsA_R [1,1,1,1,1,0] (sLpsG k_7) .normal (fun z_=>z_=sLpsH k_7):=by
  have⟨hH,hK,hN,hb,hX⟩:=id k_3
  exact rn_ev (yty.enf tabQ9 1) sLpsA_h mixed _ none [] [(4,(((wA .u8 32 K)=wA .u8 32 (dL8 (wA .u8 32 K))∧By (dL8 (wA .u8 32 K)))∧((wA .u8 12 N)=wA .u8 12 (dL8 (wA .u8 12 N))∧By (dL8 (wA .u8 12 N))))),(6,((wA .u8 16 (kyL (dL8 (wA .u8 32 K)) (dL8 (wA .u8 12 N)) 0 2)).all (fun v=>v.oneCell')=true)),(0,((wA .u8 32 (kyL (dL8 (wA .u8 32 K)) (dL8 (wA .u8 12 N)) 2 4)).all (fun v=>v.oneCell')=true))] 0 (fun j M=>by kernel_rfl) (A1 ⟨dq hK,dq hN⟩ (A1 (wA_one _ _ _) (A1 (wA_one _ _ _) A0))) rfl
structure sLpsI_c (_:sLpsB_c a t bp l cp H K N X) (c9:Nat) (S:List Int):Prop where
variable {k_8:sLpsI_c k_4 c9 S}
abbrev sLpsI (_:sLpsI_c k_4 c9 S):FS:=⟨false,59,[(8,.bool true)],[(a,t),((wA .u8 16 H),(22,(0,0))),((wA .u8 32 K),(27,(0,0))),((wA .u8 12 N),(28,(0,0))),((wA .u8 c9 (X ++ [77])),(5,(0,0))),((wA .u8 16 S),(22,(0,0))),((wA .u8 16 (kyL (dL8 (wA .u8 32 K)) (dL8 (wA .u8 12 N)) 0 2)),(22,(0,0))),((wA .u8 32 (kyL (dL8 (wA .u8 32 K)) (dL8 (wA .u8 12 N)) 2 4)),(27,(0,0))),((wA .u8 16 (kyL (dL8 (wA .u8 32 K)) (dL8 (wA .u8 12 N)) 0 2)),(22,(0,0))),((wA .u8 32 (kyL (dL8 (wA .u8 32 K)) (dL8 (wA .u8 12 N)) 2 4)),(27,(0,0)))]⟩
theorem sLps6:sLpsA_R [1,1,1,1,1,1] (sLpsH k_7) .ret (fun z_=>∃(k_4:sLpsB_c a t bp l cp H K N X) (k_8:sLpsI_c k_4 c9 S),z_=sLpsI k_8):=by
  have⟨hH,hK,hN,hb,hX⟩:=id k_3
  have⟨hl,hXl,hXb⟩:=id k_5
  have⟨hc⟩:=id k_6
  have⟨hS⟩:=id k_7
  exact rn_ev (yty.enf tabQ9 1) sLpsA_h mixed _ none [none,some (.bool true),some (.bool true),some (.bool true)] [(4,((wA .u8 c9 (X ++ [77]))=wA .u8 c9 (bOf [(a,t),((wA .u8 16 H),(22,(0,0))),((wA .u8 32 K),(27,(0,0))),((wA .u8 12 N),(28,(0,0))),((wA .u8 c9 (X ++ [77])),(5,(0,0))),((wA .u8 16 S),(22,(0,0))),((wA .u8 16 (kyL (dL8 (wA .u8 32 K)) (dL8 (wA .u8 12 N)) 0 2)),(22,(0,0))),((wA .u8 32 (kyL (dL8 (wA .u8 32 K)) (dL8 (wA .u8 12 N)) 2 4)),(27,(0,0))),((wA .u8 16 (kyL (dL8 (wA .u8 32 K)) (dL8 (wA .u8 12 N)) 0 2)),(22,(0,0))),((wA .u8 32 (kyL (dL8 (wA .u8 32 K)) (dL8 (wA .u8 12 N)) 2 4)),(27,(0,0)))] bp l ++ [77])∧l=l∧BkOk [(a,t),((wA .u8 16 H),(22,(0,0))),((wA .u8 32 K),(27,(0,0))),((wA .u8 12 N),(28,(0,0))),((wA .u8 c9 (X ++ [77])),(5,(0,0))),((wA .u8 16 S),(22,(0,0))),((wA .u8 16 (kyL (dL8 (wA .u8 32 K)) (dL8 (wA .u8 12 N)) 0 2)),(22,(0,0))),((wA .u8 32 (kyL (dL8 (wA .u8 32 K)) (dL8 (wA .u8 12 N)) 2 4)),(27,(0,0))),((wA .u8 16 (kyL (dL8 (wA .u8 32 K)) (dL8 (wA .u8 12 N)) 0 2)),(22,(0,0))),((wA .u8 32 (kyL (dL8 (wA .u8 32 K)) (dL8 (wA .u8 12 N)) 2 4)),(27,(0,0)))] bp l cp∧l≤100000000∧l+1≤c9)),(8,(((wA .u8 16 H)=wA .u8 16 (dL8 (wA .u8 16 H))∧By (dL8 (wA .u8 16 H)))∧BkOk [(a,t),((wA .u8 16 H),(22,(0,0))),((wA .u8 32 K),(27,(0,0))),((wA .u8 12 N),(28,(0,0))),((wA .u8 c9 (X ++ [77])),(5,(0,0))),((wA .u8 16 S),(22,(0,0))),((wA .u8 16 (kyL (dL8 (wA .u8 32 K)) (dL8 (wA .u8 12 N)) 0 2)),(22,(0,0))),((wA .u8 32 (kyL (dL8 (wA .u8 32 K)) (dL8 (wA .u8 12 N)) 2 4)),(27,(0,0))),((wA .u8 16 (kyL (dL8 (wA .u8 32 K)) (dL8 (wA .u8 12 N)) 0 2)),(22,(0,0))),((wA .u8 32 (kyL (dL8 (wA .u8 32 K)) (dL8 (wA .u8 12 N)) 2 4)),(27,(0,0)))] bp l cp∧l≤1000000)),(0,((isBL 16 (wA .u8 16 S)∧isBL 16 (wA .u8 16 (absL (dL8 (wA .u8 16 H)) [] (bOf [(a,t),((wA .u8 16 H),(22,(0,0))),((wA .u8 32 K),(27,(0,0))),((wA .u8 12 N),(28,(0,0))),((wA .u8 c9 (X ++ [77])),(5,(0,0))),((wA .u8 16 S),(22,(0,0))),((wA .u8 16 (kyL (dL8 (wA .u8 32 K)) (dL8 (wA .u8 12 N)) 0 2)),(22,(0,0))),((wA .u8 32 (kyL (dL8 (wA .u8 32 K)) (dL8 (wA .u8 12 N)) 2 4)),(27,(0,0))),((wA .u8 16 (kyL (dL8 (wA .u8 32 K)) (dL8 (wA .u8 12 N)) 0 2)),(22,(0,0))),((wA .u8 32 (kyL (dL8 (wA .u8 32 K)) (dL8 (wA .u8 12 N)) 2 4)),(27,(0,0)))] bp l))))∧(intsOf (wA .u8 16 S) == intsOf (wA .u8 16 (absL (dL8 (wA .u8 16 H)) [] (bOf [(a,t),((wA .u8 16 H),(22,(0,0))),((wA .u8 32 K),(27,(0,0))),((wA .u8 12 N),(28,(0,0))),((wA .u8 c9 (X ++ [77])),(5,(0,0))),((wA .u8 16 S),(22,(0,0))),((wA .u8 16 (kyL (dL8 (wA .u8 32 K)) (dL8 (wA .u8 12 N)) 0 2)),(22,(0,0))),((wA .u8 32 (kyL (dL8 (wA .u8 32 K)) (dL8 (wA .u8 12 N)) 2 4)),(27,(0,0))),((wA .u8 16 (kyL (dL8 (wA .u8 32 K)) (dL8 (wA .u8 12 N)) 0 2)),(22,(0,0))),((wA .u8 32 (kyL (dL8 (wA .u8 32 K)) (dL8 (wA .u8 12 N)) 2 4)),(27,(0,0)))] bp l))))=true)),(8,((isBL 16 (wA .u8 16 (kyL (dL8 (wA .u8 32 K)) (dL8 (wA .u8 12 N)) 0 2))∧isBL 16 (wA .u8 16 (kyL (dL8 (wA .u8 32 K)) (dL8 (wA .u8 12 N)) 0 2)))∧(intsOf (wA .u8 16 (kyL (dL8 (wA .u8 32 K)) (dL8 (wA .u8 12 N)) 0 2)) == intsOf (wA .u8 16 (kyL (dL8 (wA .u8 32 K)) (dL8 (wA .u8 12 N)) 0 2)))=true)),(8,((byD.is (wA .u8 32 (kyL (dL8 (wA .u8 32 K)) (dL8 (wA .u8 12 N)) 2 4))∧byD.is (wA .u8 32 (kyL (dL8 (wA .u8 32 K)) (dL8 (wA .u8 12 N)) 2 4)))∧(decide (db (wA .u8 32 (kyL (dL8 (wA .u8 32 K)) (dL8 (wA .u8 12 N)) 2 4))=db (wA .u8 32 (kyL (dL8 (wA .u8 32 K)) (dL8 (wA .u8 12 N)) 2 4))))=true))] 5 (fun j M=>by kernel_rfl) (A1 ⟨by rw[show bOf [(a,t),((wA .u8 16 H),(22,(0,0))),((wA .u8 32 K),(27,(0,0))),((wA .u8 12 N),(28,(0,0))),((wA .u8 c9 (X ++ [77])),(5,(0,0))),((wA .u8 16 S),(22,(0,0))),((wA .u8 16 (kyL (dL8 (wA .u8 32 K)) (dL8 (wA .u8 12 N)) 0 2)),(22,(0,0))),((wA .u8 32 (kyL (dL8 (wA .u8 32 K)) (dL8 (wA .u8 12 N)) 2 4)),(27,(0,0))),((wA .u8 16 (kyL (dL8 (wA .u8 32 K)) (dL8 (wA .u8 12 N)) 0 2)),(22,(0,0))),((wA .u8 32 (kyL (dL8 (wA .u8 32 K)) (dL8 (wA .u8 12 N)) 2 4)),(27,(0,0)))] bp l=X from(hb.app [((wA .u8 16 H),(22,(0,0))),((wA .u8 32 K),(27,(0,0))),((wA .u8 12 N),(28,(0,0))),((wA .u8 c9 (X ++ [77])),(5,(0,0))),((wA .u8 16 S),(22,(0,0))),((wA .u8 16 (kyL (dL8 (wA .u8 32 K)) (dL8 (wA .u8 12 N)) 0 2)),(22,(0,0))),((wA .u8 32 (kyL (dL8 (wA .u8 32 K)) (dL8 (wA .u8 12 N)) 2 4)),(27,(0,0))),((wA .u8 16 (kyL (dL8 (wA .u8 32 K)) (dL8 (wA .u8 12 N)) 0 2)),(22,(0,0))),((wA .u8 32 (kyL (dL8 (wA .u8 32 K)) (dL8 (wA .u8 12 N)) 2 4)),(27,(0,0)))]).2.trans hX],rfl,(hb.app [((wA .u8 16 H),(22,(0,0))),((wA .u8 32 K),(27,(0,0))),((wA .u8 12 N),(28,(0,0))),((wA .u8 c9 (X ++ [77])),(5,(0,0))),((wA .u8 16 S),(22,(0,0))),((wA .u8 16 (kyL (dL8 (wA .u8 32 K)) (dL8 (wA .u8 12 N)) 0 2)),(22,(0,0))),((wA .u8 32 (kyL (dL8 (wA .u8 32 K)) (dL8 (wA .u8 12 N)) 2 4)),(27,(0,0))),((wA .u8 16 (kyL (dL8 (wA .u8 32 K)) (dL8 (wA .u8 12 N)) 0 2)),(22,(0,0))),((wA .u8 32 (kyL (dL8 (wA .u8 32 K)) (dL8 (wA .u8 12 N)) 2 4)),(27,(0,0)))]).1,by omega,by have:=hc;simp only[List.length_append,List.length_cons,List.length_nil] at this;omega⟩ (A1 ⟨dq hH,(hb.app [((wA .u8 16 H),(22,(0,0))),((wA .u8 32 K),(27,(0,0))),((wA .u8 12 N),(28,(0,0))),((wA .u8 c9 (X ++ [77])),(5,(0,0))),((wA .u8 16 S),(22,(0,0))),((wA .u8 16 (kyL (dL8 (wA .u8 32 K)) (dL8 (wA .u8 12 N)) 0 2)),(22,(0,0))),((wA .u8 32 (kyL (dL8 (wA .u8 32 K)) (dL8 (wA .u8 12 N)) 2 4)),(27,(0,0))),((wA .u8 16 (kyL (dL8 (wA .u8 32 K)) (dL8 (wA .u8 12 N)) 0 2)),(22,(0,0))),((wA .u8 32 (kyL (dL8 (wA .u8 32 K)) (dL8 (wA .u8 12 N)) 2 4)),(27,(0,0)))]).1,by omega⟩ (A1 ⟨⟨isBL_w _ _,isBL_w _ _⟩,(by rw[absL_h,show bOf [(a,t),((wA .u8 16 H),(22,(0,0))),((wA .u8 32 K),(27,(0,0))),((wA .u8 12 N),(28,(0,0))),((wA .u8 c9 (X ++ [77])),(5,(0,0))),((wA .u8 16 S),(22,(0,0))),((wA .u8 16 (kyL (dL8 (wA .u8 32 K)) (dL8 (wA .u8 12 N)) 0 2)),(22,(0,0))),((wA .u8 32 (kyL (dL8 (wA .u8 32 K)) (dL8 (wA .u8 12 N)) 2 4)),(27,(0,0))),((wA .u8 16 (kyL (dL8 (wA .u8 32 K)) (dL8 (wA .u8 12 N)) 0 2)),(22,(0,0))),((wA .u8 32 (kyL (dL8 (wA .u8 32 K)) (dL8 (wA .u8 12 N)) 2 4)),(27,(0,0)))] bp l=X from(hb.app [((wA .u8 16 H),(22,(0,0))),((wA .u8 32 K),(27,(0,0))),((wA .u8 12 N),(28,(0,0))),((wA .u8 c9 (X ++ [77])),(5,(0,0))),((wA .u8 16 S),(22,(0,0))),((wA .u8 16 (kyL (dL8 (wA .u8 32 K)) (dL8 (wA .u8 12 N)) 0 2)),(22,(0,0))),((wA .u8 32 (kyL (dL8 (wA .u8 32 K)) (dL8 (wA .u8 12 N)) 2 4)),(27,(0,0))),((wA .u8 16 (kyL (dL8 (wA .u8 32 K)) (dL8 (wA .u8 12 N)) 0 2)),(22,(0,0))),((wA .u8 32 (kyL (dL8 (wA .u8 32 K)) (dL8 (wA .u8 12 N)) 2 4)),(27,(0,0)))]).2.trans hX,hS];exact beq_self_eq_true _)⟩ (A1 ⟨⟨isBL_w _ _,isBL_w _ _⟩,(beq_self_eq_true _)⟩ (A1 ⟨⟨by_is (kyL_by _ _ _ _),by_is (kyL_by _ _ _ _)⟩,(decide_eq_true rfl)⟩ A0))))) ⟨⟨⟩,⟨⟩,rfl⟩
theorem sLpsu':sLpsA_R [] (sLpsC k_5) .ret (fun z_=>∃(k12:Nat) (k_4:sLpsB_c a t bp l cp H K N X) (k_8:sLpsI_c k_4 k12 (absL (dL8 (wA .u8 16 H)) [] (bOf [(a,t),((wA .u8 16 H),(22,(0,0))),((wA .u8 32 K),(27,(0,0))),((wA .u8 12 N),(28,(0,0))),((wA .u8 k12 (X ++ [77])),(5,(0,0)))] (some ⟨4,0,none⟩) l))),z_=sLpsI k_8):=by
  refine rn_seq (w:= []) (by kernel_rfl) sLps0 ?_
  rintro _ rfl
  refine rn_seq (w:= [1]) (by kernel_rfl) sLps1 ?_
  rintro _ rfl
  refine rn_seq (w:= [1,1]) (by kernel_rfl) sLps2 ?_
  rintro _ ⟨k12,k_6,rfl⟩
  refine rn_seq (w:= [1,1,1]) (by kernel_rfl) sLps3 ?_
  rintro _ ⟨k_7,rfl⟩
  refine rn_seq (w:= [1,1,1,1]) (by kernel_rfl) sLps4 ?_
  rintro _ rfl
  refine rn_seq (w:= [1,1,1,1,1]) (by kernel_rfl) sLps5 ?_
  rintro _ rfl
  exact(sLps6).mono fun _ ⟨k_4,k_8,e_⟩=>⟨k12,k_4,k_8,e_⟩
abbrev sLpsC_s (a:Array Value) (t:Tq) (bp:Option Addr) (l cp:Nat) (H K N X:List Int) (j:Nat→Value):List Value:=([.agg (wA .u8 16 H),.slice bp l cp,.agg (wA .u8 32 K),.agg (wA .u8 12 N)] ++ (JU 55))
abbrev sLpsC_m (a:Array Value) (t:Tq) (bp:Option Addr) (l cp:Nat) (H K N X:List Int):List Mb:= [(a,t)]
abbrev sLpsI_s (a:Array Value) (t:Tq) (bp:Option Addr) (l cp:Nat) (H K N X:List Int) (c9:Nat) (S:List Int) (j:Nat→Value):List Value:=(J j 0 8 ++ ([.bool true] ++ (J j 9 50)))
abbrev sLpsI_m (a:Array Value) (t:Tq) (bp:Option Addr) (l cp:Nat) (H K N X:List Int) (c9:Nat) (S:List Int):List Mb:= [(a,t),((wA .u8 16 H),(22,(0,0))),((wA .u8 32 K),(27,(0,0))),((wA .u8 12 N),(28,(0,0))),((wA .u8 c9 (X ++ [77])),(5,(0,0))),((wA .u8 16 S),(22,(0,0))),((wA .u8 16 (kyL (dL8 (wA .u8 32 K)) (dL8 (wA .u8 12 N)) 0 2)),(22,(0,0))),((wA .u8 32 (kyL (dL8 (wA .u8 32 K)) (dL8 (wA .u8 12 N)) 2 4)),(27,(0,0))),((wA .u8 16 (kyL (dL8 (wA .u8 32 K)) (dL8 (wA .u8 12 N)) 0 2)),(22,(0,0))),((wA .u8 32 (kyL (dL8 (wA .u8 32 K)) (dL8 (wA .u8 12 N)) 2 4)),(27,(0,0)))]
theorem sLpsu (a:Array Value) (t:Tq) (bp:Option Addr) (l cp:Nat) (H K N X:List Int) (j:Nat→Value) (hH:By H) (hK:By K) (hN:By N) (hb:BkOk [(a,t)] bp l cp) (hX:bOf [(a,t)] bp l=X) (hl:l≤300) (hXl:X.length=l) (hXb:By X)  {c0:Prop} {ch0:List (Option Value)}:Runs Try.prog (cAt [] (bdy Try.f4)) ⟨sLpsC_s a t bp l cp H K N X j,sLpsC_m a t bp l cp H K N X,c0,ch0⟩ (fun e s=>e= .ret∧∃(k12:Nat) (j:Nat→Value) (c:Prop) (ch:List (Option Value)),s=⟨sLpsI_s a t bp l cp H K N X k12 (absL (dL8 (wA .u8 16 H)) [] (bOf [(a,t),((wA .u8 16 H),(22,(0,0))),((wA .u8 32 K),(27,(0,0))),((wA .u8 12 N),(28,(0,0))),((wA .u8 k12 (X ++ [77])),(5,(0,0)))] (some ⟨4,0,none⟩) l)) j,sLpsI_m a t bp l cp H K N X k12 (absL (dL8 (wA .u8 16 H)) [] (bOf [(a,t),((wA .u8 16 H),(22,(0,0))),((wA .u8 32 K),(27,(0,0))),((wA .u8 12 N),(28,(0,0))),((wA .u8 k12 (X ++ [77])),(5,(0,0)))] (some ⟨4,0,none⟩) l)),c,ch⟩) 1:=by
  refine(Rn.old (sLpsu' (k_3:=(⟨hH,hK,hN,hb,hX⟩:sLpsA_c a t bp l cp H K N X)) (k_5:=(⟨hl,hXl,hXb⟩:sLpsC_c (⟨hH,hK,hN,hb,hX⟩:sLpsA_c a t bp l cp H K N X)))) j (by kernel_rfl)).mono ?_
  rintro e s ⟨rfl,_,⟨k12,k_4,k_8,rfl⟩,j,c,ch,rfl⟩
  exact⟨rfl,k12,j,c,ch,by kernel_rfl⟩
def sLpnA_h (i:Nat):Hn:=if i=7 then⟨24,[],[],[],[]⟩ else⟨0,[],[],[],[]⟩
abbrev sLpnA_R (w:List Nat) (S:FS) (e:Exit) (K:FS→Prop):Prop:=Rn Try.prog (cAt w (bdy Try.f4)) S e K 0
structure sLpnA_c (H K N:List Int):Prop where
  hH:By H
  hK:By K
  hN:By N
variable {k_9:sLpnA_c H K N}
abbrev sLpnC (_:sLpnA_c H K N):FS:=⟨true,59,[(0,.agg (wA .u8 16 H)),(1,.slice none 0 0),(2,.agg (wA .u8 32 K)),(3,.agg (wA .u8 12 N))],[]⟩
abbrev sLpnD (_:sLpnA_c H K N):FS:=⟨false,59,[(1,.slice none 0 0),(4,.pointer (some ⟨0,0,none⟩)),(6,.pointer (some ⟨1,0,none⟩)),(7,.pointer (some ⟨2,0,none⟩))],[((wA .u8 16 H),(22,(0,0))),((wA .u8 32 K),(27,(0,0))),((wA .u8 12 N),(28,(0,0)))]⟩
theorem sLpn0:sLpnA_R [0] (sLpnC k_9) .normal (fun z_=>z_=sLpnD k_9):=by
  exact rn_ev (yty.en tabQ9) sLpnA_h mixed _ none [] [] 1 (fun j M=>by kernel_rfl) A0 rfl
theorem sLpn1:sLpnA_R [1,0] (sLpnD k_9) .normal (fun z_=>z_=sLpnD k_9):=by
  exact rn_ev (yty.en tabQ9) sLpnA_h mixed _ none [] [] 3 (fun j M=>by kernel_rfl) A0 rfl
structure sLpnE_c (_:sLpnA_c H K N) (c9:Nat):Prop where
  hc:(([]:List Int) ++ [77]).length≤c9
variable {k_10:sLpnE_c k_9 c9}
abbrev sLpnE (_:sLpnE_c k_9 c9):FS:=⟨false,59,[(1,.slice none 0 0),(4,.pointer (some ⟨0,0,none⟩)),(6,.pointer (some ⟨1,0,none⟩)),(7,.pointer (some ⟨2,0,none⟩)),(9,.slice (some ⟨3,0,none⟩) 0 c9)],[((wA .u8 16 H),(22,(0,0))),((wA .u8 32 K),(27,(0,0))),((wA .u8 12 N),(28,(0,0))),((wA .u8 c9 (([]:List Int) ++ [77])),(5,(0,0)))]⟩
theorem sLpn2:sLpnA_R [1,1,0] (sLpnD k_9) .normal (fun z_=>∃(k1:Nat) (k_10:sLpnE_c k_9 k1),z_=sLpnE k_10):=by
  refine rn_reg none (by kernel_rfl) fun j c0 ch0=> ?_
  have hM1:MakesA Try.prog 12 [((wA .u8 16 H),(22,(0,0))),((wA .u8 32 K),(27,(0,0))),((wA .u8 12 N),(28,(0,0)))] [.slice none 0 0] .u8 0 (([]:List Int) ++ [77]) 5 0:=(le9_c (N:=([]:List Int)) src_nil rfl (by decide))
  refine rl_call (yty.en tabQ9) (call_of Try.func12 (by kernel_rfl) (by kernel_rfl)) 1 [] [] 1 3 (some 20) hM1 (by kernel_rfl) A0 fun k1 c1_ e1_ hk1=> ?_
  exact rl_end (E:=(yty.en tabQ9)) _ [] [] 1 (fun M=>by kernel_rfl) A0 ⟨k1,⟨hk1⟩,rfl⟩
structure sLpnF_c (_:sLpnE_c k_9 c9) (S:List Int):Prop where
  hS:S=absL H [] ([]:List Int)
variable {k_11:sLpnF_c k_10 S}
abbrev sLpnF (_:sLpnF_c k_10 S):FS:=⟨false,59,[(1,.slice none 0 0),(4,.pointer (some ⟨0,0,none⟩)),(6,.pointer (some ⟨1,0,none⟩)),(7,.pointer (some ⟨2,0,none⟩)),(9,.slice (some ⟨3,0,none⟩) 0 c9),(10,.pointer (some ⟨4,0,none⟩))],[((wA .u8 16 H),(22,(0,0))),((wA .u8 32 K),(27,(0,0))),((wA .u8 12 N),(28,(0,0))),((wA .u8 c9 (([]:List Int) ++ [77])),(5,(0,0))),((wA .u8 16 S),(22,(0,0)))]⟩
theorem sLpn3:sLpnA_R [1,1,1,0] (sLpnE k_10) .normal (fun z_=>∃(k_11:sLpnF_c k_10 (absL (dL8 (wA .u8 16 H)) [] (bOf [((wA .u8 16 H),(22,(0,0))),((wA .u8 32 K),(27,(0,0))),((wA .u8 12 N),(28,(0,0))),((wA .u8 c9 (([]:List Int) ++ [77])),(5,(0,0)))] (some ⟨3,0,none⟩) 0))),z_=sLpnF k_11):=by
  have⟨hH,hK,hN⟩:=id k_9
  have⟨hc⟩:=id k_10
  exact rn_ev (yty.en tabQ9) sLpnA_h mixed _ none [] [(4,(((wA .u8 16 H)=wA .u8 16 (dL8 (wA .u8 16 H))∧By (dL8 (wA .u8 16 H)))∧BkOk [((wA .u8 16 H),(22,(0,0))),((wA .u8 32 K),(27,(0,0))),((wA .u8 12 N),(28,(0,0))),((wA .u8 c9 (([]:List Int) ++ [77])),(5,(0,0)))] (some ⟨3,0,none⟩) 0 c9∧0≤1000000)),(0,((wA .u8 16 (absL (dL8 (wA .u8 16 H)) [] (bOf [((wA .u8 16 H),(22,(0,0))),((wA .u8 32 K),(27,(0,0))),((wA .u8 12 N),(28,(0,0))),((wA .u8 c9 (([]:List Int) ++ [77])),(5,(0,0)))] (some ⟨3,0,none⟩) 0))).all (fun v=>v.oneCell')=true))] 0 (fun j M=>by kernel_rfl) (A1 ⟨dq hH,(lentB (N:=([]:List Int)) (l:=0) by_nil rfl hc rfl).1,by omega⟩ (A1 (wA_one _ _ _) A0)) ⟨⟨by rw[absL_h,(lentB (N:=([]:List Int)) (l:=0) by_nil rfl hc rfl).2]⟩,rfl⟩
abbrev sLpnG (_:sLpnF_c k_10 S):FS:=⟨false,59,[(1,.slice none 0 0),(4,.pointer (some ⟨0,0,none⟩)),(6,.pointer (some ⟨1,0,none⟩)),(7,.pointer (some ⟨2,0,none⟩)),(9,.slice (some ⟨3,0,none⟩) 0 c9),(10,.pointer (some ⟨4,0,none⟩)),(11,.pointer (some ⟨5,0,none⟩)),(12,.pointer (some ⟨6,0,none⟩))],[((wA .u8 16 H),(22,(0,0))),((wA .u8 32 K),(27,(0,0))),((wA .u8 12 N),(28,(0,0))),((wA .u8 c9 (([]:List Int) ++ [77])),(5,(0,0))),((wA .u8 16 S),(22,(0,0))),((wA .u8 16 (kyL (dL8 (wA .u8 32 K)) (dL8 (wA .u8 12 N)) 0 2)),(22,(0,0))),((wA .u8 32 (kyL (dL8 (wA .u8 32 K)) (dL8 (wA .u8 12 N)) 2 4)),(27,(0,0)))]⟩
theorem sLpn4:sLpnA_R [1,1,1,1,0] (sLpnF k_11) .normal (fun z_=>z_=sLpnG k_11):=by
  have⟨hH,hK,hN⟩:=id k_9
  exact rn_ev (yty.en tabQ9) sLpnA_h mixed _ none [] [(4,(((wA .u8 32 K)=wA .u8 32 (dL8 (wA .u8 32 K))∧By (dL8 (wA .u8 32 K)))∧((wA .u8 12 N)=wA .u8 12 (dL8 (wA .u8 12 N))∧By (dL8 (wA .u8 12 N))))),(6,((wA .u8 16 (kyL (dL8 (wA .u8 32 K)) (dL8 (wA .u8 12 N)) 0 2)).all (fun v=>v.oneCell')=true)),(0,((wA .u8 32 (kyL (dL8 (wA .u8 32 K)) (dL8 (wA .u8 12 N)) 2 4)).all (fun v=>v.oneCell')=true))] 0 (fun j M=>by kernel_rfl) (A1 ⟨dq hK,dq hN⟩ (A1 (wA_one _ _ _) (A1 (wA_one _ _ _) A0))) rfl
abbrev sLpnH (_:sLpnF_c k_10 S):FS:=⟨false,59,[(1,.slice none 0 0),(4,.pointer (some ⟨0,0,none⟩)),(6,.pointer (some ⟨1,0,none⟩)),(7,.pointer (some ⟨2,0,none⟩)),(9,.slice (some ⟨3,0,none⟩) 0 c9),(10,.pointer (some ⟨4,0,none⟩)),(11,.pointer (some ⟨5,0,none⟩)),(12,.pointer (some ⟨6,0,none⟩)),(13,.pointer (some ⟨7,0,none⟩)),(14,.pointer (some ⟨8,0,none⟩))],[((wA .u8 16 H),(22,(0,0))),((wA .u8 32 K),(27,(0,0))),((wA .u8 12 N),(28,(0,0))),((wA .u8 c9 (([]:List Int) ++ [77])),(5,(0,0))),((wA .u8 16 S),(22,(0,0))),((wA .u8 16 (kyL (dL8 (wA .u8 32 K)) (dL8 (wA .u8 12 N)) 0 2)),(22,(0,0))),((wA .u8 32 (kyL (dL8 (wA .u8 32 K)) (dL8 (wA .u8 12 N)) 2 4)),(27,(0,0))),((wA .u8 16 (kyL (dL8 (wA .u8 32 K)) (dL8 (wA .u8 12 N)) 0 2)),(22,(0,0))),((wA .u8 32 (kyL (dL8 (wA .u8 32 K)) (dL8 (wA .u8 12 N)) 2 4)),(27,(0,0)))]⟩
theorem sLpn5:sLpnA_R [1,1,1,1,1,0] (sLpnG k_11) .normal (fun z_=>z_=sLpnH k_11):=by
  have⟨hH,hK,hN⟩:=id k_9
  exact rn_ev (yty.en tabQ9) sLpnA_h mixed _ none [] [(4,(((wA .u8 32 K)=wA .u8 32 (dL8 (wA .u8 32 K))∧By (dL8 (wA .u8 32 K)))∧((wA .u8 12 N)=wA .u8 12 (dL8 (wA .u8 12 N))∧By (dL8 (wA .u8 12 N))))),(6,((wA .u8 16 (kyL (dL8 (wA .u8 32 K)) (dL8 (wA .u8 12 N)) 0 2)).all (fun v=>v.oneCell')=true)),(0,((wA .u8 32 (kyL (dL8 (wA .u8 32 K)) (dL8 (wA .u8 12 N)) 2 4)).all (fun v=>v.oneCell')=true))] 0 (fun j M=>by kernel_rfl) (A1 ⟨dq hK,dq hN⟩ (A1 (wA_one _ _ _) (A1 (wA_one _ _ _) A0))) rfl
structure sLpnI_c (H K N:List Int) (c9:Nat) (S:List Int):Prop where
variable {k_12:sLpnI_c H K N c9 S}
abbrev sLpnI (_:sLpnI_c H K N c9 S):FS:=⟨false,59,[(8,.bool true)],[((wA .u8 16 H),(22,(0,0))),((wA .u8 32 K),(27,(0,0))),((wA .u8 12 N),(28,(0,0))),((wA .u8 c9 (([]:List Int) ++ [77])),(5,(0,0))),((wA .u8 16 S),(22,(0,0))),((wA .u8 16 (kyL (dL8 (wA .u8 32 K)) (dL8 (wA .u8 12 N)) 0 2)),(22,(0,0))),((wA .u8 32 (kyL (dL8 (wA .u8 32 K)) (dL8 (wA .u8 12 N)) 2 4)),(27,(0,0))),((wA .u8 16 (kyL (dL8 (wA .u8 32 K)) (dL8 (wA .u8 12 N)) 0 2)),(22,(0,0))),((wA .u8 32 (kyL (dL8 (wA .u8 32 K)) (dL8 (wA .u8 12 N)) 2 4)),(27,(0,0)))]⟩
theorem sLpn6:sLpnA_R [1,1,1,1,1,1] (sLpnH k_11) .ret (fun z_=>∃(k_12:sLpnI_c H K N c9 S),z_=sLpnI k_12):=by
  have⟨hH,hK,hN⟩:=id k_9
  have⟨hc⟩:=id k_10
  have⟨hS⟩:=id k_11
  exact rn_ev (yty.en tabQ9) sLpnA_h mixed _ none [none,some (.bool true),some (.bool true),some (.bool true)] [(4,((wA .u8 c9 (([]:List Int) ++ [77]))=wA .u8 c9 (bOf [((wA .u8 16 H),(22,(0,0))),((wA .u8 32 K),(27,(0,0))),((wA .u8 12 N),(28,(0,0))),((wA .u8 c9 (([]:List Int) ++ [77])),(5,(0,0))),((wA .u8 16 S),(22,(0,0))),((wA .u8 16 (kyL (dL8 (wA .u8 32 K)) (dL8 (wA .u8 12 N)) 0 2)),(22,(0,0))),((wA .u8 32 (kyL (dL8 (wA .u8 32 K)) (dL8 (wA .u8 12 N)) 2 4)),(27,(0,0))),((wA .u8 16 (kyL (dL8 (wA .u8 32 K)) (dL8 (wA .u8 12 N)) 0 2)),(22,(0,0))),((wA .u8 32 (kyL (dL8 (wA .u8 32 K)) (dL8 (wA .u8 12 N)) 2 4)),(27,(0,0)))] none 0 ++ [77])∧0=0∧BkOk [((wA .u8 16 H),(22,(0,0))),((wA .u8 32 K),(27,(0,0))),((wA .u8 12 N),(28,(0,0))),((wA .u8 c9 (([]:List Int) ++ [77])),(5,(0,0))),((wA .u8 16 S),(22,(0,0))),((wA .u8 16 (kyL (dL8 (wA .u8 32 K)) (dL8 (wA .u8 12 N)) 0 2)),(22,(0,0))),((wA .u8 32 (kyL (dL8 (wA .u8 32 K)) (dL8 (wA .u8 12 N)) 2 4)),(27,(0,0))),((wA .u8 16 (kyL (dL8 (wA .u8 32 K)) (dL8 (wA .u8 12 N)) 0 2)),(22,(0,0))),((wA .u8 32 (kyL (dL8 (wA .u8 32 K)) (dL8 (wA .u8 12 N)) 2 4)),(27,(0,0)))] none 0 0∧0≤100000000∧0+1≤c9)),(8,(((wA .u8 16 H)=wA .u8 16 (dL8 (wA .u8 16 H))∧By (dL8 (wA .u8 16 H)))∧BkOk [((wA .u8 16 H),(22,(0,0))),((wA .u8 32 K),(27,(0,0))),((wA .u8 12 N),(28,(0,0))),((wA .u8 c9 (([]:List Int) ++ [77])),(5,(0,0))),((wA .u8 16 S),(22,(0,0))),((wA .u8 16 (kyL (dL8 (wA .u8 32 K)) (dL8 (wA .u8 12 N)) 0 2)),(22,(0,0))),((wA .u8 32 (kyL (dL8 (wA .u8 32 K)) (dL8 (wA .u8 12 N)) 2 4)),(27,(0,0))),((wA .u8 16 (kyL (dL8 (wA .u8 32 K)) (dL8 (wA .u8 12 N)) 0 2)),(22,(0,0))),((wA .u8 32 (kyL (dL8 (wA .u8 32 K)) (dL8 (wA .u8 12 N)) 2 4)),(27,(0,0)))] none 0 0∧0≤1000000)),(0,((isBL 16 (wA .u8 16 S)∧isBL 16 (wA .u8 16 (absL (dL8 (wA .u8 16 H)) [] (bOf [((wA .u8 16 H),(22,(0,0))),((wA .u8 32 K),(27,(0,0))),((wA .u8 12 N),(28,(0,0))),((wA .u8 c9 (([]:List Int) ++ [77])),(5,(0,0))),((wA .u8 16 S),(22,(0,0))),((wA .u8 16 (kyL (dL8 (wA .u8 32 K)) (dL8 (wA .u8 12 N)) 0 2)),(22,(0,0))),((wA .u8 32 (kyL (dL8 (wA .u8 32 K)) (dL8 (wA .u8 12 N)) 2 4)),(27,(0,0))),((wA .u8 16 (kyL (dL8 (wA .u8 32 K)) (dL8 (wA .u8 12 N)) 0 2)),(22,(0,0))),((wA .u8 32 (kyL (dL8 (wA .u8 32 K)) (dL8 (wA .u8 12 N)) 2 4)),(27,(0,0)))] none 0))))∧(intsOf (wA .u8 16 S) == intsOf (wA .u8 16 (absL (dL8 (wA .u8 16 H)) [] (bOf [((wA .u8 16 H),(22,(0,0))),((wA .u8 32 K),(27,(0,0))),((wA .u8 12 N),(28,(0,0))),((wA .u8 c9 (([]:List Int) ++ [77])),(5,(0,0))),((wA .u8 16 S),(22,(0,0))),((wA .u8 16 (kyL (dL8 (wA .u8 32 K)) (dL8 (wA .u8 12 N)) 0 2)),(22,(0,0))),((wA .u8 32 (kyL (dL8 (wA .u8 32 K)) (dL8 (wA .u8 12 N)) 2 4)),(27,(0,0))),((wA .u8 16 (kyL (dL8 (wA .u8 32 K)) (dL8 (wA .u8 12 N)) 0 2)),(22,(0,0))),((wA .u8 32 (kyL (dL8 (wA .u8 32 K)) (dL8 (wA .u8 12 N)) 2 4)),(27,(0,0)))] none 0))))=true)),(8,((isBL 16 (wA .u8 16 (kyL (dL8 (wA .u8 32 K)) (dL8 (wA .u8 12 N)) 0 2))∧isBL 16 (wA .u8 16 (kyL (dL8 (wA .u8 32 K)) (dL8 (wA .u8 12 N)) 0 2)))∧(intsOf (wA .u8 16 (kyL (dL8 (wA .u8 32 K)) (dL8 (wA .u8 12 N)) 0 2)) == intsOf (wA .u8 16 (kyL (dL8 (wA .u8 32 K)) (dL8 (wA .u8 12 N)) 0 2)))=true)),(8,((byD.is (wA .u8 32 (kyL (dL8 (wA .u8 32 K)) (dL8 (wA .u8 12 N)) 2 4))∧byD.is (wA .u8 32 (kyL (dL8 (wA .u8 32 K)) (dL8 (wA .u8 12 N)) 2 4)))∧(decide (db (wA .u8 32 (kyL (dL8 (wA .u8 32 K)) (dL8 (wA .u8 12 N)) 2 4))=db (wA .u8 32 (kyL (dL8 (wA .u8 32 K)) (dL8 (wA .u8 12 N)) 2 4))))=true))] 5 (fun j M=>by kernel_rfl) (A1 ⟨by rw[show bOf [((wA .u8 16 H),(22,(0,0))),((wA .u8 32 K),(27,(0,0))),((wA .u8 12 N),(28,(0,0))),((wA .u8 c9 (([]:List Int) ++ [77])),(5,(0,0))),((wA .u8 16 S),(22,(0,0))),((wA .u8 16 (kyL (dL8 (wA .u8 32 K)) (dL8 (wA .u8 12 N)) 0 2)),(22,(0,0))),((wA .u8 32 (kyL (dL8 (wA .u8 32 K)) (dL8 (wA .u8 12 N)) 2 4)),(27,(0,0))),((wA .u8 16 (kyL (dL8 (wA .u8 32 K)) (dL8 (wA .u8 12 N)) 0 2)),(22,(0,0))),((wA .u8 32 (kyL (dL8 (wA .u8 32 K)) (dL8 (wA .u8 12 N)) 2 4)),(27,(0,0)))] none 0=([]:List Int) from rfl],rfl,⟨by decide,.inl ⟨rfl,rfl,rfl⟩⟩,by omega,by have:=hc;simp only[List.length_append,List.length_cons,List.length_nil] at this;omega⟩ (A1 ⟨dq hH,⟨by decide,.inl ⟨rfl,rfl,rfl⟩⟩,by omega⟩ (A1 ⟨⟨isBL_w _ _,isBL_w _ _⟩,(by rw[absL_h,show bOf [((wA .u8 16 H),(22,(0,0))),((wA .u8 32 K),(27,(0,0))),((wA .u8 12 N),(28,(0,0))),((wA .u8 c9 (([]:List Int) ++ [77])),(5,(0,0))),((wA .u8 16 S),(22,(0,0))),((wA .u8 16 (kyL (dL8 (wA .u8 32 K)) (dL8 (wA .u8 12 N)) 0 2)),(22,(0,0))),((wA .u8 32 (kyL (dL8 (wA .u8 32 K)) (dL8 (wA .u8 12 N)) 2 4)),(27,(0,0))),((wA .u8 16 (kyL (dL8 (wA .u8 32 K)) (dL8 (wA .u8 12 N)) 0 2)),(22,(0,0))),((wA .u8 32 (kyL (dL8 (wA .u8 32 K)) (dL8 (wA .u8 12 N)) 2 4)),(27,(0,0)))] none 0=([]:List Int) from rfl,hS];exact beq_self_eq_true _)⟩ (A1 ⟨⟨isBL_w _ _,isBL_w _ _⟩,(beq_self_eq_true _)⟩ (A1 ⟨⟨by_is (kyL_by _ _ _ _),by_is (kyL_by _ _ _ _)⟩,(decide_eq_true rfl)⟩ A0))))) ⟨⟨⟩,rfl⟩
theorem sLpnu':sLpnA_R [] (sLpnC k_9) .ret (fun z_=>∃(k12:Nat) (k_12:sLpnI_c H K N k12 (absL (dL8 (wA .u8 16 H)) [] (bOf [((wA .u8 16 H),(22,(0,0))),((wA .u8 32 K),(27,(0,0))),((wA .u8 12 N),(28,(0,0))),((wA .u8 k12 (([]:List Int) ++ [77])),(5,(0,0)))] (some ⟨3,0,none⟩) 0))),z_=sLpnI k_12):=by
  refine rn_seq (w:= []) (by kernel_rfl) sLpn0 ?_
  rintro _ rfl
  refine rn_seq (w:= [1]) (by kernel_rfl) sLpn1 ?_
  rintro _ rfl
  refine rn_seq (w:= [1,1]) (by kernel_rfl) sLpn2 ?_
  rintro _ ⟨k12,k_10,rfl⟩
  refine rn_seq (w:= [1,1,1]) (by kernel_rfl) sLpn3 ?_
  rintro _ ⟨k_11,rfl⟩
  refine rn_seq (w:= [1,1,1,1]) (by kernel_rfl) sLpn4 ?_
  rintro _ rfl
  refine rn_seq (w:= [1,1,1,1,1]) (by kernel_rfl) sLpn5 ?_
  rintro _ rfl
  exact(sLpn6).mono fun _ ⟨k_12,e_⟩=>⟨k12,k_12,e_⟩
abbrev sLpnC_s (H K N:List Int) (j:Nat→Value):List Value:=([.agg (wA .u8 16 H),.slice none 0 0,.agg (wA .u8 32 K),.agg (wA .u8 12 N)] ++ (JU 55))
abbrev sLpnC_m (H K N:List Int):List Mb:= []
abbrev sLpnI_s (H K N:List Int) (c9:Nat) (S:List Int) (j:Nat→Value):List Value:=(J j 0 8 ++ ([.bool true] ++ (J j 9 50)))
abbrev sLpnI_m (H K N:List Int) (c9:Nat) (S:List Int):List Mb:= [((wA .u8 16 H),(22,(0,0))),((wA .u8 32 K),(27,(0,0))),((wA .u8 12 N),(28,(0,0))),((wA .u8 c9 (([]:List Int) ++ [77])),(5,(0,0))),((wA .u8 16 S),(22,(0,0))),((wA .u8 16 (kyL (dL8 (wA .u8 32 K)) (dL8 (wA .u8 12 N)) 0 2)),(22,(0,0))),((wA .u8 32 (kyL (dL8 (wA .u8 32 K)) (dL8 (wA .u8 12 N)) 2 4)),(27,(0,0))),((wA .u8 16 (kyL (dL8 (wA .u8 32 K)) (dL8 (wA .u8 12 N)) 0 2)),(22,(0,0))),((wA .u8 32 (kyL (dL8 (wA .u8 32 K)) (dL8 (wA .u8 12 N)) 2 4)),(27,(0,0)))]
theorem sLpnu (H K N:List Int) (j:Nat→Value) (hH:By H) (hK:By K) (hN:By N)  {c0:Prop} {ch0:List (Option Value)}:Runs Try.prog (cAt [] (bdy Try.f4)) ⟨sLpnC_s H K N j,sLpnC_m H K N,c0,ch0⟩ (fun e s=>e= .ret∧∃(k12:Nat) (j:Nat→Value) (c:Prop) (ch:List (Option Value)),s=⟨sLpnI_s H K N k12 (absL (dL8 (wA .u8 16 H)) [] (bOf [((wA .u8 16 H),(22,(0,0))),((wA .u8 32 K),(27,(0,0))),((wA .u8 12 N),(28,(0,0))),((wA .u8 k12 (([]:List Int) ++ [77])),(5,(0,0)))] (some ⟨3,0,none⟩) 0)) j,sLpnI_m H K N k12 (absL (dL8 (wA .u8 16 H)) [] (bOf [((wA .u8 16 H),(22,(0,0))),((wA .u8 32 K),(27,(0,0))),((wA .u8 12 N),(28,(0,0))),((wA .u8 k12 (([]:List Int) ++ [77])),(5,(0,0)))] (some ⟨3,0,none⟩) 0)),c,ch⟩) 0:=by
  refine(Rn.old (sLpnu' (k_9:=(⟨hH,hK,hN⟩:sLpnA_c H K N))) j (by kernel_rfl)).mono ?_
  rintro e s ⟨rfl,_,⟨k12,k_12,rfl⟩,j,c,ch,rfl⟩
  exact⟨rfl,k12,j,c,ch,by kernel_rfl⟩
theorem sLp_s (a:Array Value) (t:Tq) (bp:Option Addr) (l cp:Nat) (H K N:List Int) (hH:By H) (hK:By K) (hN:By N) (hb:BkOk [(a,t)] bp l cp):Reads Try.prog 4 [(a,t)] [.agg (wA .u8 16 H),.slice bp l cp,.agg (wA .u8 32 K),.agg (wA .u8 12 N)] (.bool true):=by
  have ha: [Value.agg (wA .u8 16 H),.slice bp l cp,.agg (wA .u8 32 K),.agg (wA .u8 12 N)].all (okp (1%big))=true:=by
    have h1:Go.Ev.okp 1 (.slice bp l cp)=true:=hb.okp
    show(true && (Go.Ev.okp 1 (.slice bp l cp) && (true && (true && true))))=true
    rw[h1];rfl
  refine reads_runs (fk:=1) (yty.enf tabQ9 1) Try.func4 (c:=bdy Try.f4) (by kernel_rfl) ⟨by rfl,by decide⟩ (args:= [.agg (wA .u8 16 H),.slice bp l cp,.agg (wA .u8 32 K),.agg (wA .u8 12 N)]) ha (K:=fun e s=>e= .ret∧resS (yty.enf tabQ9 1) s Try.f4.results.toList=some [.bool true]) ?_ (fun e s h=>⟨h.1,_,h.2,rfl⟩)
  by_cases hl:300<l
  · refine (sLpsL a t bp l cp H K N _ (fun _ => undef) hH hK hN hb rfl hl).mono ?_
    rintro e s ⟨rfl,j,c,ch,rfl⟩
    exact⟨rfl,by kernel_rfl⟩
  · refine (sLpsu a t bp l cp H K N _ (fun _ => undef) hH hK hN hb rfl (by omega) hb.len hb.by).mono ?_
    rintro e s ⟨rfl,c9,j,c,ch,rfl⟩
    exact⟨rfl,by kernel_rfl⟩
theorem sLp_n (H K N:List Int) (hH:By H) (hK:By K) (hN:By N):Pure Try.prog 4 #[.agg (wA .u8 16 H),.slice none 0 0,.agg (wA .u8 32 K),.agg (wA .u8 12 N)] (.bool true):=by
  refine pure_runs (E:=(yty.en tabQ9)) Try.func4 (c:=bdy Try.f4) (by kernel_rfl) (args:= [.agg (wA .u8 16 H),.slice none 0 0,.agg (wA .u8 32 K),.agg (wA .u8 12 N)]) (by kernel_rfl) (K:=fun e s=>e= .ret∧resS (yty.en tabQ9) s Try.f4.results.toList=some [.bool true]) ?_ (fun e s h=>⟨h.1,_,h.2,rfl⟩)
  refine(sLpnu H K N (fun _=>undef) hH hK hN).mono ?_
  rintro e s ⟨rfl,c9,j,c,ch,rfl⟩
  exact⟨rfl,by kernel_rfl⟩
end Go.Proofs.Ythldpfindbhkeaa
