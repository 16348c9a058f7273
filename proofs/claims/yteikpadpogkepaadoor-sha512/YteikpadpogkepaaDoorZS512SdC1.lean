import Derived.Test.YteikpadpogkepaaDoorZS512SdB
set_option linter.unusedSimpArgs false
set_option linter.unusedVariables false
/-! The document's SHA-2: a text filled up, its contract. -/
namespace Go.Proofs.YteikpadpogkepaaDoor
open Go.RowKit Go.Ev
theorem makesA_lift {P : Program} {f : FuncId} {q0 : Value} (hq : np q0 = true) {n ng : Nat} {L : List Int} {e : TypeId} {mem : List Mb} {bp : Option Addr} {l cp : Nat} {N : List Int} (hu : SrcOk .u8 mem (.slice bp l cp) N) (hS : ∀ a t o, SrcOk .u8 [(a, t)] (.slice (some ⟨0, o, none⟩) l cp) N → MakesA P f [(a, t)] [q0, .slice (some ⟨0, o, none⟩) l cp] .u8 n L e) (hNil : N = [] → MakesA P f [] [q0, .slice none 0 0] .u8 n L e) : MakesA P f mem [q0, .slice bp l cp] .u8 n L e ng := fun w β hw hg => by
  rcases hu.h with⟨h1,h2⟩|⟨j,p,c,src,st,h1,h2,h3,h4⟩
  · cases h1
    have h:=hNil h2 w β (fun i x hx=>by simp at hx) (fun i hi=>by omega)
    exact h
  · cases h1
    have h := hS src st p ⟨.inr ⟨0, p, cp, src, st, rfl, rfl, h3, h4⟩⟩ w (fun _ => β j) (fun i x hx => by
      cases i with
      | zero =>
        simp only[List.getElem?_cons_zero,Option.some.injEq] at hx
        subst hx
        exact hw j _ h2
      |succ i=>simp at hx) (fun i hi=>by omega)
    have e1:∀ β:Nat→Nat,rn β q0=q0:=fun β=>rn_np hq
    simp only[List.map_cons,List.map_nil,e1] at h ⊢
    exact h
theorem np_agg (a:Array Value):np (.agg a)=true:=rfl
theorem okp_src {a:Array Value} {t:Tq} {bp:Option Addr} {l cp:Nat} {N:List Int} (h:SrcOk .u8 [(a,t)] (.slice bp l cp) N):okp 1 (.slice bp l cp)=true:=by
  rcases h.h with⟨h1,_⟩|⟨j,p,c,src,st,h1,h2,_⟩
  · cases h1;rfl
  · cases h1
    cases j with
    |zero=>rfl
    |succ j=>simp at h2
def ful5 (N:List Int):List Int:=N ++ [128] ++ List.replicate ((240 - (N.length+1)%128)%128) 0 ++ beL (N.length*8) 16
theorem ful5_len (N:List Int):(ful5 N).length=N.length+1+(240 - (N.length+1)%128)%128+16:=by
  unfold ful5
  simp only[List.length_append,List.length_cons,List.length_nil,List.length_replicate,beL_len]
theorem Full5s_c (a:Array Value) (t:Tq) (o l cp:Nat) (N:List Int) (hu:SrcOk .u8 [(a,t)] (.slice (some ⟨0,o,none⟩) l cp) N) (hN:N.length=l) (hl:l≤1000000000):MakesA Tryd.prog 53 [(a,t)] [.agg qC5,.slice (some ⟨0,o,none⟩) l cp] .u8 (ful5 N).length (ful5 N) 5:=by
  refine makesA_runs (fk:=1) Tryd.func53 (c:=bdy Tryd.f53) (by kernel_rfl) ⟨rfl,by decide⟩ (args:= [.agg qC5,.slice (some ⟨0,o,none⟩) l cp]) rfl (r:=4) (by kernel_rfl) (fs5u a t o l cp N (fun _=>undef) hu hN hl) ?_
  rintro e s ⟨rfl,cap2,k3,k4,n4,cap4,X4,i17,m17,c817,Y17,n18,k18,j,c,ch,hX,hXl,hn,hc,hZ,hk,hY,hYl,hi,hc8,hm,hmb,hn9,hc9,rfl⟩
  have hL:X4 ++ Y17=ful5 N:=by
    rw[hX,hY,hi,hk];unfold ful5;simp only[hN,List.length_nil]
  have hn':n18=(ful5 N).length:=by rw[ful5_len];simp only[hN,List.length_nil];omega
  refine⟨rfl,2,k18,by decide,by omega,?_,?_⟩
  · rw[← hn'];rfl
  · rw[← hL];rfl
theorem Full5n_c:MakesA Tryd.prog 53 [] [.agg qC5,.slice none 0 0] .u8 (ful5 []).length (ful5 []) 5:=by
  refine makesA_runs (fk:=0) Tryd.func53 (c:=bdy Tryd.f53) (by kernel_rfl) ⟨rfl,by decide⟩ (args:= [.agg qC5,.slice none 0 0]) rfl (r:=4) (by kernel_rfl) (fn5u [] (fun _=>undef) rfl) ?_
  rintro e s ⟨rfl,cap2,k3,k4,n4,cap4,X4,i17,m17,c817,Y17,n18,k18,j,c,ch,hX,hXl,hn,hc,hZ,hk,hY,hYl,hi,hc8,hm,hmb,hn9,hc9,rfl⟩
  have hL:X4 ++ Y17=ful5 []:=by
    rw[hX,hY,hi,hk];unfold ful5;simp only[List.length_nil]
  have hn':n18=(ful5 []).length:=by rw[ful5_len];simp only[List.length_nil];omega
  refine⟨rfl,1,k18,by decide,by omega,?_,?_⟩
  · rw[← hn'];rfl
  · rw[← hL];rfl
theorem Full5_c {mem:List Mb} {bp:Option Addr} {l cp ng:Nat} {N:List Int} (hu:SrcOk .u8 mem (.slice bp l cp) N) (hN:N.length=l) (hl:l≤1000000000):MakesA Tryd.prog 53 mem [.agg qC5,.slice bp l cp] .u8 (ful5 N).length (ful5 N) 5 ng:=
  makesA_lift (np_agg _) hu (fun a t o h=>Full5s_c a t o l cp N h hN hl) (fun e=>by subst e;exact Full5n_c)
end Go.Proofs.YteikpadpogkepaaDoor

set_option linter.unusedSimpArgs false
set_option linter.unusedVariables false
/-! The same bytes, with one more behind them. -/
namespace Go.Proofs.YteikpadpogkepaaDoor
open Go.RowKit Go.Ev
theorem makesA_lift1 {P : Program} {f : FuncId} {n ng : Nat} {L : List Int} {e : TypeId} {mem : List Mb} {bp : Option Addr} {l cp : Nat} {N : List Int} (hu : SrcOk .u8 mem (.slice bp l cp) N) (hS : ∀ a t o, SrcOk .u8 [(a, t)] (.slice (some ⟨0, o, none⟩) l cp) N → MakesA P f [(a, t)] [.slice (some ⟨0, o, none⟩) l cp] .u8 n L e) (hNil : N = [] → MakesA P f [] [.slice none 0 0] .u8 n L e) : MakesA P f mem [.slice bp l cp] .u8 n L e ng := fun w β hw hg => by
  rcases hu.h with⟨h1,h2⟩|⟨j,p,c,src,st,h1,h2,h3,h4⟩
  · cases h1
    exact hNil h2 w β (fun i x hx=>by simp at hx) (fun i hi=>by omega)
  · cases h1
    exact hS src st p ⟨.inr ⟨0,p,cp,src,st,rfl,rfl,h3,h4⟩⟩ w (fun _=>β j) (fun i x hx=>by
      cases i with
      | zero =>
        simp only[List.getElem?_cons_zero,Option.some.injEq] at hx
        subst hx
        exact hw j _ h2
      |succ i=>simp at hx) (fun i hi=>by omega)
abbrev le6sA_s (a:Array Value) (t:Tq) (o l cp:Nat) (N:List Int) (j:Nat→Value):List Value:=([.slice (some ⟨0,o,none⟩) l cp] ++ (JU 10))
abbrev le6sA_m (a:Array Value) (t:Tq) (o l cp:Nat) (N:List Int):List Mb:= [(a,t)]
abbrev le6sB_s (a:Array Value) (t:Tq) (o l cp:Nat) (N:List Int) (j:Nat→Value):List Value:=([.slice (some ⟨0,o,none⟩) l cp] ++ (J j 1 10))
abbrev le6sB_m (a:Array Value) (t:Tq) (o l cp:Nat) (N:List Int):List Mb:= [(a,t)]
def le6s0p_h (i:Nat):Hn:=⟨0,[],[],[],[]⟩
def le6s0p_b (a:Array Value) (t:Tq) (o l cp:Nat) (N:List Int) (j:Nat→Value):List Value:=([.slice (some ⟨0,o,none⟩) l cp,undef,.slice none 0 0] ++ (JU 8))
theorem le6s0p_0 (a:Array Value) (t:Tq) (o l cp:Nat) (N:List Int) (j:Nat→Value):evC (yty.enf tab0 1) le6s0p_h (cAt [0] (bdy Tryd.f10)) ⟨le6sA_s a t o l cp N j,le6sA_m a t o l cp N,True,[]⟩=some (.normal,⟨le6s0p_b a t o l cp N j,[(a,t)],(True∧True),[]⟩):=by kernel_rfl
theorem le6s0 (a:Array Value) (t:Tq) (o l cp:Nat) (N:List Int) (j:Nat→Value) (hu:SrcOk .u8 [(a,t)] (.slice (some ⟨0,o,none⟩) l cp) N) (hN:N.length=l) (hl:l≤1000000000)  {c0:Prop} {ch0:List (Option Value)}:Runs Tryd.prog (cAt [0] (bdy Tryd.f10)) ⟨le6sA_s a t o l cp N j,le6sA_m a t o l cp N,c0,ch0⟩ (fun e s=>e= .normal∧∃(j:Nat→Value) (c:Prop) (ch:List (Option Value)),s=⟨le6sB_s a t o l cp N j,le6sB_m a t o l cp N,c,ch⟩) 1:=by
  refine(runs_ev mixed _ (le6s0p_0 a t o l cp N j) ⟨trivial,trivial⟩).mono ?_
  rintro e s ⟨rfl,hs⟩
  refine⟨rfl,fun q=>s.tm.getD q undef,s.c,s.ch,?_⟩
  subst hs
  kernel_rfl
abbrev le6sC_s (a:Array Value) (t:Tq) (o l cp:Nat) (N:List Int) (k2:Nat) (j:Nat→Value):List Value:=([j 0,j 1,.slice (some ⟨1,(if k2=0 then 0 else 0+0*1),none⟩) l k2] ++ (J j 3 8))
abbrev le6sC_m (a:Array Value) (t:Tq) (o l cp:Nat) (N:List Int) (k2:Nat):List Mb:= [(a,t),((wA .u8 k2 (N ++ [77])),(5,(0,0))),((wA .u8 1 [77]),(5,(0,0)))]
def le6s1p_m0 (a:Array Value) (t:Tq) (o l cp:Nat) (N:List Int) (j:Nat→Value):List Value:=([.slice (some ⟨0,o,none⟩) l cp,j 1,j 2,.slice (some ⟨1,0,none⟩) 0 0,.slice (some ⟨0,o,none⟩) l cp] ++ (J j 5 6))
theorem le6s1p_0 (a:Array Value) (t:Tq) (o l cp:Nat) (N:List Int) (j:Nat→Value):evL (yty.enf tab0 1) (oT (cAt [1,0] (bdy Tryd.f10))) ((oT (cAt [1,0] (bdy Tryd.f10))).toList.take 2) ⟨le6sB_s a t o l cp N j,le6sB_m a t o l cp N,True,[]⟩=some ⟨le6s1p_m0 a t o l cp N j,[(a,t),((wA .u8 0 []),(5,(0,0)))],(True∧True),[]⟩:=by kernel_rfl
def le6s1p_m1 (a:Array Value) (t:Tq) (o l cp:Nat) (N:List Int) (j:Nat→Value) (n1 k1 M1:Nat):List Value:=([.slice (some ⟨0,o,none⟩) l cp,al 1 M1 (j 1),al 1 M1 (j 2),.slice (some ⟨M1,0,none⟩) 0 0,.slice (some ⟨0,o,none⟩) l cp,.slice (some ⟨1,0,none⟩) n1 k1,.slice (some ⟨2,0,none⟩) 1 1] ++ (JA j 1 M1 7 4))
theorem le6s1p_1 (a:Array Value) (t:Tq) (o l cp:Nat) (N:List Int) (j:Nat→Value) (n1 k1 M1:Nat):evL (yty.enf tab0 1) (oT (cAt [1,0] (bdy Tryd.f10))) (((oT (cAt [1,0] (bdy Tryd.f10))).toList.drop 3).take 1) ⟨putS ((le6s1p_m0 a t o l cp N j).map (al 1 M1)) (some 5) (.slice (some ⟨1,0,none⟩) n1 k1),[(a,t),((wA .u8 0 []),(5,(0,0)))].set 1 (wA .u8 k1 (([]:List Int) ++ N),5,(0,0)),True,[]⟩=some ⟨le6s1p_m1 a t o l cp N j n1 k1 M1,[(a,t),((wA .u8 k1 (([]:List Int) ++ N)),(5,(0,0))),((wA .u8 1 [77]),(5,(0,0)))],True,[]⟩:=by kernel_rfl
def le6s1p_b (a:Array Value) (t:Tq) (o l cp:Nat) (N:List Int) (j:Nat→Value) (n1 k1 M1:Nat) (n2 k2 M2:Nat):List Value:=([.slice (some ⟨0,o,none⟩) l cp,al 1 M2 (al 1 M1 (j 1)),.slice (some ⟨1,(if k2=0 then 0 else 0+0*1),none⟩) l k2,al 1 M2 (.slice (some ⟨M1,0,none⟩) 0 0),.slice (some ⟨0,o,none⟩) l cp,.slice (some ⟨M2,0,none⟩) n1 k1,.slice (some ⟨2,0,none⟩) 1 1,.slice (some ⟨1,0,none⟩) n2 k2,.slice (some ⟨0,o,none⟩) l cp,.int .i64 ((l:Nat):Int),.slice (some ⟨1,(if k2=0 then 0 else 0+0*1),none⟩) l k2])
theorem le6s1p_e (a:Array Value) (t:Tq) (o l cp:Nat) (N:List Int) (j:Nat→Value) (n1 k1 M1:Nat) (n2 k2 M2:Nat):evL (yty.enf tab0 1) (oT (cAt [1,0] (bdy Tryd.f10))) (((oT (cAt [1,0] (bdy Tryd.f10))).toList.drop 3).drop 2) ⟨putS ((le6s1p_m1 a t o l cp N j n1 k1 M1).map (al 1 M2)) (some 7) (.slice (some ⟨1,0,none⟩) n2 k2),[(a,t),((wA .u8 k1 (([]:List Int) ++ N)),(5,(0,0))),((wA .u8 1 [77]),(5,(0,0)))].set 1 (wA .u8 k2 (N ++ ([77]:List Int)),5,(0,0)),True,[]⟩=some ⟨le6s1p_b a t o l cp N j n1 k1 M1 n2 k2 M2,[(a,t),((wA .u8 k2 (N ++ ([77]:List Int))),(5,(0,0))),((wA .u8 1 [77]),(5,(0,0)))],((((True∧True)∧True)∧((True∧(0≤((l:Nat):Int)))∧0≤l∧l≤k2))∧True),[]⟩:=by kernel_rfl
theorem le6s1 (a:Array Value) (t:Tq) (o l cp:Nat) (N:List Int) (j:Nat→Value) (hu:SrcOk .u8 [(a,t)] (.slice (some ⟨0,o,none⟩) l cp) N) (hN:N.length=l) (hl:l≤1000000000)  {c0:Prop} {ch0:List (Option Value)}:Runs Tryd.prog (cAt [1,0] (bdy Tryd.f10)) ⟨le6sB_s a t o l cp N j,le6sB_m a t o l cp N,c0,ch0⟩ (fun e s=>e= .normal∧∃(k2:Nat) (j:Nat→Value) (c:Prop) (ch:List (Option Value)),(l+1≤k2)∧s=⟨le6sC_s a t o l cp N k2 j,le6sC_m a t o l cp N k2,c,ch⟩) 1:=by
  refine runs_region (K:=fun s=>∃(k2:Nat) (j:Nat→Value) (c:Prop) (ch:List (Option Value)),(l+1≤k2)∧s=⟨le6sC_s a t o l cp N k2 j,le6sC_m a t o l cp N k2,c,ch⟩) (by kernel_rfl) ?_
  have hb0:(([]:List Int)).length+(N).length≤1099511627776:=(by simp only[List.length_nil];omega)
  refine runsL_appS (E:=(yty.enf tab0 1)) (x:=(.tmp 3)) (y:=(.tmp 4)) (d:=some 5) (L:=([]:List Int)) (N:=N) 2 (le6s1p_0 a t o l cp N j) ⟨trivial,trivial⟩ (by kernel_rfl) apB apB.ht (by decide) (by decide) rfl rfl rfl (by simp) (SrcOk.app (x:= [_]) hu) (by omega) (by omega) (fun n1 k1 M1 c ch hn1 hk1=> ?_)
  try simp only[List.length_append,List.length_cons,List.length_nil,List.length_singleton] at hn1
  have hb1:(N).length+(([77]:List Int)).length≤1099511627776:=(by simp only[List.length_cons,List.length_nil];omega)
  refine runsL_appS (E:=(yty.enf tab0 1)) (x:=(.tmp 5)) (y:=(.tmp 6)) (d:=some 7) (L:=N) (N:=([77]:List Int)) 1 (le6s1p_1 a t o l cp N j n1 k1 M1) trivial (by kernel_rfl) apB apB.ht (by decide) (by decide) rfl (by omega) rfl (by omega) (src_wA (i:=2) rfl rfl (by decide)) (by omega) (by omega) (fun n2 k2 M2 c ch hn2 hk2=> ?_)
  try simp only[List.length_append,List.length_cons,List.length_nil,List.length_singleton] at hn2
  refine(runsL_ev _ (le6s1p_e a t o l cp N j n1 k1 M1 n2 k2 M2) ⟨⟨⟨⟨trivial,trivial⟩,trivial⟩,(by refine⟨⟨?_,?_⟩,?_,?_⟩<;>first|trivial|omega)⟩,trivial⟩).mono ?_
  rintro s hs
  refine⟨k2,fun q=>s.tm.getD q undef,s.c,s.ch,by omega,?_⟩
  subst hs
  kernel_rfl
def le6s2p_h (i:Nat):Hn:=⟨0,[],[],[],[]⟩
def le6s2p_b (a:Array Value) (t:Tq) (o l cp:Nat) (N:List Int) (k2:Nat) (j:Nat→Value):List Value:=([j 0,j 1,.slice (some ⟨1,(if k2=0 then 0 else 0+0*1),none⟩) l k2] ++ (J j 3 8))
theorem le6s2p_0 (a:Array Value) (t:Tq) (o l cp:Nat) (N:List Int) (k2:Nat) (j:Nat→Value):evC (yty.enf tab0 1) le6s2p_h (cAt [1,1] (bdy Tryd.f10)) ⟨le6sC_s a t o l cp N k2 j,le6sC_m a t o l cp N k2,True,[]⟩=some (.ret,⟨le6s2p_b a t o l cp N k2 j,[(a,t),((wA .u8 k2 (N ++ [77])),(5,(0,0))),((wA .u8 1 [77]),(5,(0,0)))],True,[]⟩):=by kernel_rfl
theorem le6s2 (a:Array Value) (t:Tq) (o l cp:Nat) (N:List Int) (k2:Nat) (j:Nat→Value) (hu:SrcOk .u8 [(a,t)] (.slice (some ⟨0,o,none⟩) l cp) N) (hN:N.length=l) (hl:l≤1000000000) (hk:l+1≤k2)  {c0:Prop} {ch0:List (Option Value)}:Runs Tryd.prog (cAt [1,1] (bdy Tryd.f10)) ⟨le6sC_s a t o l cp N k2 j,le6sC_m a t o l cp N k2,c0,ch0⟩ (fun e s=>e= .ret∧∃(j:Nat→Value) (c:Prop) (ch:List (Option Value)),s=⟨le6sC_s a t o l cp N k2 j,le6sC_m a t o l cp N k2,c,ch⟩) 1:=by
  refine(runs_ev mixed _ (le6s2p_0 a t o l cp N k2 j) trivial).mono ?_
  rintro e s ⟨rfl,hs⟩
  refine⟨rfl,fun q=>s.tm.getD q undef,s.c,s.ch,?_⟩
  subst hs
  kernel_rfl
theorem le6su (a:Array Value) (t:Tq) (o l cp:Nat) (N:List Int) (j:Nat→Value) (hu:SrcOk .u8 [(a,t)] (.slice (some ⟨0,o,none⟩) l cp) N) (hN:N.length=l) (hl:l≤1000000000)  {c0:Prop} {ch0:List (Option Value)}:Runs Tryd.prog (cAt [] (bdy Tryd.f10)) ⟨le6sA_s a t o l cp N j,le6sA_m a t o l cp N,c0,ch0⟩ (fun e s=>e= .ret∧∃(k21:Nat) (j:Nat→Value) (c:Prop) (ch:List (Option Value)),(l+1≤k21)∧s=⟨le6sC_s a t o l cp N k21 j,le6sC_m a t o l cp N k21,c,ch⟩) 1:=by
  rw[show(cAt [] (bdy Tryd.f10))=(.seq (cAt [0] (bdy Tryd.f10)) (.seq (cAt [1,0] (bdy Tryd.f10)) (cAt [1,1] (bdy Tryd.f10)))) from by kernel_rfl]
  refine runs_seq (le6s0 a t o l cp N j hu hN hl ) (fun s hh=> ?_) (fun e s hne hh=>absurd hh.1 hne)
  obtain⟨_,j,c,ch,rfl⟩:=hh
  refine runs_seq (le6s1 a t o l cp N j hu hN hl ) (fun s hh=> ?_) (fun e s hne hh=>absurd hh.1 hne)
  obtain⟨_,k21,j,c,ch,f1_3,rfl⟩:=hh
  refine(le6s2 a t o l cp N k21 j hu hN hl f1_3 ).mono ?_
  rintro e s ⟨rfl,j,c,ch,rfl⟩
  exact⟨rfl,k21,j,c,ch,f1_3,rfl⟩
abbrev le6nA_s (N:List Int) (j:Nat→Value):List Value:=([.slice none 0 0] ++ (JU 10))
abbrev le6nA_m (N:List Int):List Mb:= []
abbrev le6nB_s (N:List Int) (j:Nat→Value):List Value:=([.slice none 0 0] ++ (J j 1 10))
abbrev le6nB_m (N:List Int):List Mb:= []
def le6n0p_h (i:Nat):Hn:=⟨0,[],[],[],[]⟩
def le6n0p_b (N:List Int) (j:Nat→Value):List Value:=([.slice none 0 0,undef,.slice none 0 0] ++ (JU 8))
theorem le6n0p_0 (N:List Int) (j:Nat→Value):evC (yty.en tab0) le6n0p_h (cAt [0] (bdy Tryd.f10)) ⟨le6nA_s N j,le6nA_m N,True,[]⟩=some (.normal,⟨le6n0p_b N j,[],(True∧True),[]⟩):=by kernel_rfl
theorem le6n0 (N:List Int) (j:Nat→Value) (hN:N= [])  {c0:Prop} {ch0:List (Option Value)}:Runs Tryd.prog (cAt [0] (bdy Tryd.f10)) ⟨le6nA_s N j,le6nA_m N,c0,ch0⟩ (fun e s=>e= .normal∧∃(j:Nat→Value) (c:Prop) (ch:List (Option Value)),s=⟨le6nB_s N j,le6nB_m N,c,ch⟩) 0:=by
  refine(runs_ev mixed _ (le6n0p_0 N j) ⟨trivial,trivial⟩).mono ?_
  rintro e s ⟨rfl,hs⟩
  refine⟨rfl,fun q=>s.tm.getD q undef,s.c,s.ch,?_⟩
  subst hs
  kernel_rfl
abbrev le6nC_s (N:List Int) (k2:Nat) (j:Nat→Value):List Value:=([j 0,j 1,.slice (some ⟨0,(if k2=0 then 0 else 0+0*1),none⟩) 0 k2] ++ (J j 3 8))
abbrev le6nC_m (N:List Int) (k2:Nat):List Mb:= [((wA .u8 k2 (N ++ [77])),(5,(0,0))),((wA .u8 1 [77]),(5,(0,0)))]
def le6n1p_m0 (N:List Int) (j:Nat→Value):List Value:=([.slice none 0 0,j 1,j 2,.slice (some ⟨0,0,none⟩) 0 0,.slice none 0 0] ++ (J j 5 6))
theorem le6n1p_0 (N:List Int) (j:Nat→Value):evL (yty.en tab0) (oT (cAt [1,0] (bdy Tryd.f10))) ((oT (cAt [1,0] (bdy Tryd.f10))).toList.take 2) ⟨le6nB_s N j,le6nB_m N,True,[]⟩=some ⟨le6n1p_m0 N j,[((wA .u8 0 []),(5,(0,0)))],(True∧True),[]⟩:=by kernel_rfl
def le6n1p_m1 (N:List Int) (j:Nat→Value) (n1 k1 M1:Nat):List Value:=([.slice none 0 0,al 0 M1 (j 1),al 0 M1 (j 2),.slice (some ⟨M1,0,none⟩) 0 0,.slice none 0 0,.slice (some ⟨0,0,none⟩) n1 k1,.slice (some ⟨1,0,none⟩) 1 1] ++ (JA j 0 M1 7 4))
theorem le6n1p_1 (N:List Int) (j:Nat→Value) (n1 k1 M1:Nat):evL (yty.en tab0) (oT (cAt [1,0] (bdy Tryd.f10))) (((oT (cAt [1,0] (bdy Tryd.f10))).toList.drop 3).take 1) ⟨putS ((le6n1p_m0 N j).map (al 0 M1)) (some 5) (.slice (some ⟨0,0,none⟩) n1 k1),[((wA .u8 0 []),(5,(0,0)))].set 0 (wA .u8 k1 (([]:List Int) ++ N),5,(0,0)),True,[]⟩=some ⟨le6n1p_m1 N j n1 k1 M1,[((wA .u8 k1 (([]:List Int) ++ N)),(5,(0,0))),((wA .u8 1 [77]),(5,(0,0)))],True,[]⟩:=by kernel_rfl
def le6n1p_b (N:List Int) (j:Nat→Value) (n1 k1 M1:Nat) (n2 k2 M2:Nat):List Value:=([.slice none 0 0,al 0 M2 (al 0 M1 (j 1)),.slice (some ⟨0,(if k2=0 then 0 else 0+0*1),none⟩) 0 k2,al 0 M2 (.slice (some ⟨M1,0,none⟩) 0 0),.slice none 0 0,.slice (some ⟨M2,0,none⟩) n1 k1,.slice (some ⟨1,0,none⟩) 1 1,.slice (some ⟨0,0,none⟩) n2 k2,.slice none 0 0,.int .i64 0,.slice (some ⟨0,(if k2=0 then 0 else 0+0*1),none⟩) 0 k2])
theorem le6n1p_e (N:List Int) (j:Nat→Value) (n1 k1 M1:Nat) (n2 k2 M2:Nat):evL (yty.en tab0) (oT (cAt [1,0] (bdy Tryd.f10))) (((oT (cAt [1,0] (bdy Tryd.f10))).toList.drop 3).drop 2) ⟨putS ((le6n1p_m1 N j n1 k1 M1).map (al 0 M2)) (some 7) (.slice (some ⟨0,0,none⟩) n2 k2),[((wA .u8 k1 (([]:List Int) ++ N)),(5,(0,0))),((wA .u8 1 [77]),(5,(0,0)))].set 0 (wA .u8 k2 (N ++ ([77]:List Int)),5,(0,0)),True,[]⟩=some ⟨le6n1p_b N j n1 k1 M1 n2 k2 M2,[((wA .u8 k2 (N ++ ([77]:List Int))),(5,(0,0))),((wA .u8 1 [77]),(5,(0,0)))],((((True∧True)∧True)∧((True∧((0:Int)≤0))∧0≤0∧0≤k2))∧True),[]⟩:=by kernel_rfl
theorem le6n1 (N:List Int) (j:Nat→Value) (hN:N= [])  {c0:Prop} {ch0:List (Option Value)}:Runs Tryd.prog (cAt [1,0] (bdy Tryd.f10)) ⟨le6nB_s N j,le6nB_m N,c0,ch0⟩ (fun e s=>e= .normal∧∃(k2:Nat) (j:Nat→Value) (c:Prop) (ch:List (Option Value)),(0+1≤k2)∧s=⟨le6nC_s N k2 j,le6nC_m N k2,c,ch⟩) 0:=by
  have hNl:N.length=0:=by rw[hN];rfl
  refine runs_region (K:=fun s=>∃(k2:Nat) (j:Nat→Value) (c:Prop) (ch:List (Option Value)),(0+1≤k2)∧s=⟨le6nC_s N k2 j,le6nC_m N k2,c,ch⟩) (by kernel_rfl) ?_
  have hb0:(([]:List Int)).length+(N).length≤1099511627776:=(by rw[hN];decide)
  refine runsL_appS (E:=(yty.en tab0)) (x:=(.tmp 3)) (y:=(.tmp 4)) (d:=some 5) (L:=([]:List Int)) (N:=N) 2 (le6n1p_0 N j) ⟨trivial,trivial⟩ (by kernel_rfl) apB apB.ht (by decide) (by decide) rfl rfl rfl (by simp) (by subst hN;exact src_nil) (by omega) (by omega) (fun n1 k1 M1 c ch hn1 hk1=> ?_)
  try simp only[List.length_append,List.length_cons,List.length_nil,List.length_singleton] at hn1
  have hb1:(N).length+(([77]:List Int)).length≤1099511627776:=(by rw[hN];decide)
  refine runsL_appS (E:=(yty.en tab0)) (x:=(.tmp 5)) (y:=(.tmp 6)) (d:=some 7) (L:=N) (N:=([77]:List Int)) 1 (le6n1p_1 N j n1 k1 M1) trivial (by kernel_rfl) apB apB.ht (by decide) (by decide) rfl (by rw[hn1,hN];rfl) rfl (by omega) (src_wA (i:=1) rfl rfl (by decide)) (by omega) (by omega) (fun n2 k2 M2 c ch hn2 hk2=> ?_)
  try simp only[List.length_append,List.length_cons,List.length_nil,List.length_singleton] at hn2
  refine(runsL_ev _ (le6n1p_e N j n1 k1 M1 n2 k2 M2) ⟨⟨⟨⟨trivial,trivial⟩,trivial⟩,(by refine⟨⟨?_,?_⟩,?_,?_⟩<;>first|trivial|omega)⟩,trivial⟩).mono ?_
  rintro s hs
  refine⟨k2,fun q=>s.tm.getD q undef,s.c,s.ch,by rw[hN] at hn2;simp at hn2;omega,?_⟩
  subst hs
  kernel_rfl
def le6n2p_h (i:Nat):Hn:=⟨0,[],[],[],[]⟩
def le6n2p_b (N:List Int) (k2:Nat) (j:Nat→Value):List Value:=([j 0,j 1,.slice (some ⟨0,(if k2=0 then 0 else 0+0*1),none⟩) 0 k2] ++ (J j 3 8))
theorem le6n2p_0 (N:List Int) (k2:Nat) (j:Nat→Value):evC (yty.en tab0) le6n2p_h (cAt [1,1] (bdy Tryd.f10)) ⟨le6nC_s N k2 j,le6nC_m N k2,True,[]⟩=some (.ret,⟨le6n2p_b N k2 j,[((wA .u8 k2 (N ++ [77])),(5,(0,0))),((wA .u8 1 [77]),(5,(0,0)))],True,[]⟩):=by kernel_rfl
theorem le6n2 (N:List Int) (k2:Nat) (j:Nat→Value) (hN:N= []) (hk:0+1≤k2)  {c0:Prop} {ch0:List (Option Value)}:Runs Tryd.prog (cAt [1,1] (bdy Tryd.f10)) ⟨le6nC_s N k2 j,le6nC_m N k2,c0,ch0⟩ (fun e s=>e= .ret∧∃(j:Nat→Value) (c:Prop) (ch:List (Option Value)),s=⟨le6nC_s N k2 j,le6nC_m N k2,c,ch⟩) 0:=by
  refine(runs_ev mixed _ (le6n2p_0 N k2 j) trivial).mono ?_
  rintro e s ⟨rfl,hs⟩
  refine⟨rfl,fun q=>s.tm.getD q undef,s.c,s.ch,?_⟩
  subst hs
  kernel_rfl
theorem le6nu (N:List Int) (j:Nat→Value) (hN:N= [])  {c0:Prop} {ch0:List (Option Value)}:Runs Tryd.prog (cAt [] (bdy Tryd.f10)) ⟨le6nA_s N j,le6nA_m N,c0,ch0⟩ (fun e s=>e= .ret∧∃(k21:Nat) (j:Nat→Value) (c:Prop) (ch:List (Option Value)),(0+1≤k21)∧s=⟨le6nC_s N k21 j,le6nC_m N k21,c,ch⟩) 0:=by
  rw[show(cAt [] (bdy Tryd.f10))=(.seq (cAt [0] (bdy Tryd.f10)) (.seq (cAt [1,0] (bdy Tryd.f10)) (cAt [1,1] (bdy Tryd.f10)))) from by kernel_rfl]
  refine runs_seq (le6n0 N j hN ) (fun s hh=> ?_) (fun e s hne hh=>absurd hh.1 hne)
  obtain⟨_,j,c,ch,rfl⟩:=hh
  refine runs_seq (le6n1 N j hN ) (fun s hh=> ?_) (fun e s hne hh=>absurd hh.1 hne)
  obtain⟨_,k21,j,c,ch,f1_1,rfl⟩:=hh
  refine(le6n2 N k21 j hN f1_1 ).mono ?_
  rintro e s ⟨rfl,j,c,ch,rfl⟩
  exact⟨rfl,k21,j,c,ch,f1_1,rfl⟩
theorem le6_some (a:Array Value) (t:Tq) (o l cp:Nat) (N:List Int) (hu:SrcOk .u8 [(a,t)] (.slice (some ⟨0,o,none⟩) l cp) N) (hN:N.length=l) (hl:l≤1000000000):MakesA Tryd.prog 10 [(a,t)] [.slice (some ⟨0,o,none⟩) l cp] .u8 l (N ++ [77]) 5:=by
  refine makesA_runs (fk:=1) Tryd.func10 (c:=bdy Tryd.f10) (by kernel_rfl) ⟨rfl,by decide⟩ (args:= [.slice (some ⟨0,o,none⟩) l cp]) rfl (r:=2) (by kernel_rfl) (le6su a t o l cp N (fun _=>undef) hu hN hl) ?_
  rintro e s ⟨rfl,k2,j,c,ch,hk,rfl⟩
  have hz:(if k2=0 then 0 else 0+0*1)=0:=by split<;>rfl
  refine⟨rfl,1,k2,by decide,by simp only[List.length_append,List.length_cons,List.length_nil];omega,?_,rfl⟩
  show Value.slice (some ⟨1,(if k2=0 then 0 else 0+0*1),none⟩) l k2=_
  rw[hz]
theorem le6_nil:MakesA Tryd.prog 10 [] [.slice none 0 0] .u8 0 ([] ++ [77]) 5:=by
  refine makesA_runs (fk:=0) Tryd.func10 (c:=bdy Tryd.f10) (by kernel_rfl) ⟨rfl,by decide⟩ (args:= [.slice none 0 0]) rfl (r:=2) (by kernel_rfl) (le6nu [] (fun _=>undef) rfl) ?_
  rintro e s ⟨rfl,k2,j,c,ch,hk,rfl⟩
  have hz:(if k2=0 then 0 else 0+0*1)=0:=by split<;>rfl
  refine⟨rfl,0,k2,by decide,by simp only[List.length_append,List.length_cons,List.length_nil];omega,?_,rfl⟩
  show Value.slice (some ⟨0,(if k2=0 then 0 else 0+0*1),none⟩) 0 k2=_
  rw[hz]
theorem le6_c {mem:List Mb} {bp:Option Addr} {l cp ng:Nat} {N:List Int} (hu:SrcOk .u8 mem (.slice bp l cp) N) (hN:N.length=l) (hl:l≤1000000000):MakesA Tryd.prog 10 mem [.slice bp l cp] .u8 l (N ++ [77]) 5 ng:=
  makesA_lift1 hu (fun a t o h=>le6_some a t o l cp N h hN hl) (fun e=>by subst e;have:l=0:=hN.symm;subst this;exact le6_nil)
end Go.Proofs.YteikpadpogkepaaDoor
