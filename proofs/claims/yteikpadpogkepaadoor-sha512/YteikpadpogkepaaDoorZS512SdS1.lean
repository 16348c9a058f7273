import Derived.Test.YteikpadpogkepaaDoorZS512SdD2
import Derived.Test.YteikpadpogkepaaDoorZS512SdD5
import Derived.Test.YteikpadpogkepaaDoorZS512SdO
import Derived.Test.YteikpadpogkepaaDoorZS512SdC1
import Derived.Test.YteikpadpogkepaaDoorZS512ByA1
import Derived.Test.YteikpadpogkepaaDoorZS512ShK1
set_option linter.unusedSimpArgs false
set_option linter.unusedVariables false
/-! The document's SHA-2: Sum256 and Sum512. -/
namespace Go.Proofs.YteikpadpogkepaaDoor
open Go.RowKit Go.Ev
theorem makesA_lift2 {P : Program} {f : FuncId} {q0 : Value} (hq : np q0 = true) {n ng : Nat} {L : List Int} {e : TypeId} {mem : List Mb} {bp : Option Addr} {l cp : Nat} {N : List Int} (hu : SrcOk .u8 mem (.slice bp l cp) N) (h0 : ∃ x, mem[0]? = some x) (hS : ∀ a t bp, SrcOk .u8 [(a, t)] (.slice bp l cp) N → MakesA P f [(a, t)] [q0, .slice bp l cp] .u8 n L e) : MakesA P f mem [q0, .slice bp l cp] .u8 n L e ng := fun w β hw hg => by
  have e1:∀ β:Nat→Nat,rn β q0=q0:=fun β=>rn_np hq
  rcases hu.h with⟨h1,h2⟩|⟨j,p,c,src,st,h1,h2,h3,h4⟩
  · cases h1
    obtain⟨x,hx0⟩:=h0
    have h := hS x.1 x.2 none ⟨.inl ⟨rfl, h2⟩⟩ w (fun _ => β 0) (fun i y hy => by
      cases i with
      | zero =>
        simp only[List.getElem?_cons_zero,Option.some.injEq] at hy
        subst hy
        exact hw 0 _ hx0
      |succ i=>simp at hy) (fun i hi=>by omega)
    simp only[List.map_cons,List.map_nil,e1] at h ⊢
    exact h
  · cases h1
    have h := hS src st _ ⟨.inr ⟨0, p, cp, src, st, rfl, rfl, h3, h4⟩⟩ w (fun _ => β j) (fun i x hx => by
      cases i with
      | zero =>
        simp only[List.getElem?_cons_zero,Option.some.injEq] at hx
        subst hx
        exact hw j _ h2
      |succ i=>simp at hx) (fun i hi=>by omega)
    simp only[List.map_cons,List.map_nil,e1] at h ⊢
    exact h
theorem reads_lift {P : Program} {f : FuncId} {v : Value} {mem : List Mb} {bp : Option Addr} {l cp : Nat} {N : List Int} (hu : SrcOk .u8 mem (.slice bp l cp) N) (h0 : ∃ x, mem[0]? = some x) (hS : ∀ a t bp, SrcOk .u8 [(a, t)] (.slice bp l cp) N → Reads P f [(a, t)] [.slice bp l cp] v) {w : World} {β : Nat → Nat} (hw : Has w β mem) : Calls P f ([Value.slice bp l cp].map (rn β)).toArray w (fun e w' => e = .returned v ∧ Below w.heap.size w w') := by
  rcases hu.h with⟨h1,h2⟩|⟨j,p,c,src,st,h1,h2,h3,h4⟩
  · cases h1
    obtain⟨x,hx0⟩:=h0
    exact hS x.1 x.2 none ⟨.inl ⟨rfl,h2⟩⟩ w (fun _=>β 0) (fun i y hy=>by
      cases i with
      | zero =>
        simp only[List.getElem?_cons_zero,Option.some.injEq] at hy
        subst hy
        exact hw 0 _ hx0
      |succ i=>simp at hy) (fun i hi=>by omega)
  · cases h1
    exact hS src st _ ⟨.inr ⟨0,p,cp,src,st,rfl,rfl,h3,h4⟩⟩ w (fun _=>β j) (fun i x hx=>by
      cases i with
      | zero =>
        simp only[List.getElem?_cons_zero,Option.some.injEq] at hx
        subst hx
        exact hw j _ h2
      |succ i=>simp at hx) (fun i hi=>by omega)
def bytesOf (mem : List Mb) (bp : Option Addr) (l : Nat) : List Int := match bp with
  | some ⟨i, o, _⟩ => (match mem[i]? with
    |some x=>bL x.1 o l
    |none=> [])
  |none=> []
theorem tk_step {L:List Int} {i:Nat} (h:i<L.length):L.take i ++ [L.getD i 0]=L.take (i+1):=by
  rw[List.getD_eq_getElem?_getD,List.getElem?_eq_getElem h,Option.getD_some,List.take_append_getElem h]
def sh5 (N:List Int):List Int:=oL5 [(hsD5 (ful5 N) ((ful5 N).length / 128)).a,(hsD5 (ful5 N) ((ful5 N).length / 128)).b,(hsD5 (ful5 N) ((ful5 N).length / 128)).c,(hsD5 (ful5 N) ((ful5 N).length / 128)).d,(hsD5 (ful5 N) ((ful5 N).length / 128)).e,(hsD5 (ful5 N) ((ful5 N).length / 128)).f,(hsD5 (ful5 N) ((ful5 N).length / 128)).g,(hsD5 (ful5 N) ((ful5 N).length / 128)).h] 64
theorem sh5_len (N:List Int):(sh5 N).length=64:=oL5_len _ _
theorem ful5_mul (N:List Int) (h:N.length≤1000000000):(ful5 N).length=128*((ful5 N).length / 128):=by
  rw[ful5_len];omega
theorem sum5_sh {a:Array Value} {o l:Nat} (hb:bytesAt a o l) (hl:l≤1000000000):sum5 a o l=sh5 (bL a o l):=
  (sumq5 hb hl (ful5_mul _ (by rw[bL_len];exact hl)) rfl).symm
theorem DSum5_c (a:Array Value) (t:Tq) (bp:Option Addr) (l cp:Nat) (N:List Int) (hu:SrcOk .u8 [(a,t)] (.slice bp l cp) N) (hN:N.length=l) (hl:l≤1000000000):MakesA Tryd.prog 37 [(a,t)] [.agg qC5,.slice bp l cp] .u8 64 (sh5 N) 5:=by
  refine makesA_runs (fk:=1) Tryd.func37 (c:=bdy Tryd.f37) (by kernel_rfl) ⟨rfl,by decide⟩ (args:= [.agg qC5,.slice bp l cp]) (by show(true && (okp 1 (.slice bp l cp) && true))=true;rw[okp_src hu];rfl) (r:=4) (by kernel_rfl) (ds5co a t bp l cp N (fun _=>undef) hu hN hl) ?_
  rintro e s ⟨rfl,k14,y,kk,pp,i,q,c4,Y,j,c,ch,_,_,_,_,hy,hp,hk,hY,hYl,hq,hi,hc4,rfl⟩
  obtain rfl:q=64:=by omega
  have hL:Y=sh5 N:=by rw[hY,hy,hk];rfl
  subst hL
  exact⟨rfl,4,c4,by decide,by omega,rfl,rfl⟩
theorem DSumA5_c {mem:List Mb} {bp:Option Addr} {l cp ng:Nat} {N:List Int} (hu:SrcOk .u8 mem (.slice bp l cp) N) (h0:∃ x,mem[0]? =some x) (hN:N.length=l) (hl:l≤1000000000):MakesA Tryd.prog 37 mem [.agg qC5,.slice bp l cp] .u8 64 (sh5 N) 5 ng:=
  makesA_lift2 (np_agg _) hu h0 (fun a t bp h=>DSum5_c a t bp l cp N h hN hl)
def tabQ5:List (Entry Tryd.prog):=pdOf5 :: tab0
abbrev du5A_s (a:Array Value) (t:Tq) (bp:Option Addr) (l cp:Nat) (N:List Int) (j:Nat→Value):List Value:=([.slice bp l cp] ++ (JU 19))
abbrev du5A_m (a:Array Value) (t:Tq) (bp:Option Addr) (l cp:Nat) (N:List Int):List Mb:= [(a,t)]
abbrev du5B_s (a:Array Value) (t:Tq) (bp:Option Addr) (l cp:Nat) (N:List Int) (j:Nat→Value):List Value:=([.slice bp l cp,j 1,.pointer (some ⟨1,0,none⟩)] ++ (J j 3 17))
abbrev du5B_m (a:Array Value) (t:Tq) (bp:Option Addr) (l cp:Nat) (N:List Int):List Mb:= [(a,t),((wA .u8 64 []),(28,(0,0)))]
def du50p_h (i:Nat):Hn:=⟨0,[],[],[],[]⟩
def du50p_b (a:Array Value) (t:Tq) (bp:Option Addr) (l cp:Nat) (N:List Int) (j:Nat→Value):List Value:=([.slice bp l cp,undef,.pointer (some ⟨1,0,none⟩)] ++ (JU 17))
theorem du50p_0 (a:Array Value) (t:Tq) (bp:Option Addr) (l cp:Nat) (N:List Int) (j:Nat→Value):evC (yty.enf tabQ5 1) du50p_h (cAt [0] (bdy Tryd.f14)) ⟨du5A_s a t bp l cp N j,du5A_m a t bp l cp N,True,[]⟩=some (.normal,⟨du50p_b a t bp l cp N j,[(a,t),((wA .u8 64 []),(28,(0,0)))],True,[]⟩):=by kernel_rfl
theorem du50 (a:Array Value) (t:Tq) (bp:Option Addr) (l cp:Nat) (N:List Int) (j:Nat→Value) (hu:SrcOk .u8 [(a,t)] (.slice bp l cp) N) (hN:N.length=l) (hl:l≤1000000000)  {c0:Prop} {ch0:List (Option Value)}:Runs Tryd.prog (cAt [0] (bdy Tryd.f14)) ⟨du5A_s a t bp l cp N j,du5A_m a t bp l cp N,c0,ch0⟩ (fun e s=>e= .normal∧∃(j:Nat→Value) (c:Prop) (ch:List (Option Value)),s=⟨du5B_s a t bp l cp N j,du5B_m a t bp l cp N,c,ch⟩) 1:=by
  refine(runs_ev mixed _ (du50p_0 a t bp l cp N j) trivial).mono ?_
  rintro e s ⟨rfl,hs⟩
  refine⟨rfl,fun q=>s.tm.getD q undef,s.c,s.ch,?_⟩
  subst hs
  kernel_rfl
abbrev du5C_s (a:Array Value) (t:Tq) (bp:Option Addr) (l cp:Nat) (N:List Int) (j:Nat→Value):List Value:=([.slice bp l cp,j 1,.pointer (some ⟨1,0,none⟩),.pointer (some ⟨2,0,none⟩)] ++ (J j 4 16))
abbrev du5C_m (a:Array Value) (t:Tq) (bp:Option Addr) (l cp:Nat) (N:List Int):List Mb:= [(a,t),((wA .u8 64 []),(28,(0,0))),((wA .u8 64 []),(28,(0,0)))]
def du51p_h (i:Nat):Hn:=⟨0,[],[],[],[]⟩
def du51p_b (a:Array Value) (t:Tq) (bp:Option Addr) (l cp:Nat) (N:List Int) (j:Nat→Value):List Value:=([.slice bp l cp,j 1,.pointer (some ⟨1,0,none⟩),.pointer (some ⟨2,0,none⟩)] ++ (J j 4 16))
theorem du51p_0 (a:Array Value) (t:Tq) (bp:Option Addr) (l cp:Nat) (N:List Int) (j:Nat→Value):evC (yty.enf tabQ5 1) du51p_h (cAt [1,0] (bdy Tryd.f14)) ⟨du5B_s a t bp l cp N j,du5B_m a t bp l cp N,True,[]⟩=some (.normal,⟨du51p_b a t bp l cp N j,[(a,t),((wA .u8 64 []),(28,(0,0))),((wA .u8 64 []),(28,(0,0)))],True,[]⟩):=by kernel_rfl
theorem du51 (a:Array Value) (t:Tq) (bp:Option Addr) (l cp:Nat) (N:List Int) (j:Nat→Value) (hu:SrcOk .u8 [(a,t)] (.slice bp l cp) N) (hN:N.length=l) (hl:l≤1000000000)  {c0:Prop} {ch0:List (Option Value)}:Runs Tryd.prog (cAt [1,0] (bdy Tryd.f14)) ⟨du5B_s a t bp l cp N j,du5B_m a t bp l cp N,c0,ch0⟩ (fun e s=>e= .normal∧∃(j:Nat→Value) (c:Prop) (ch:List (Option Value)),s=⟨du5C_s a t bp l cp N j,du5C_m a t bp l cp N,c,ch⟩) 1:=by
  refine(runs_ev mixed _ (du51p_0 a t bp l cp N j) trivial).mono ?_
  rintro e s ⟨rfl,hs⟩
  refine⟨rfl,fun q=>s.tm.getD q undef,s.c,s.ch,?_⟩
  subst hs
  kernel_rfl
abbrev du5D_s (a:Array Value) (t:Tq) (bp:Option Addr) (l cp:Nat) (N:List Int) (c3:Nat) (j:Nat→Value):List Value:=([j 0,j 1,.pointer (some ⟨1,0,none⟩),.pointer (some ⟨2,0,none⟩),.slice (some ⟨3,0,none⟩) 64 c3] ++ (J j 5 15))
abbrev du5D_m (a:Array Value) (t:Tq) (bp:Option Addr) (l cp:Nat) (N:List Int) (c3:Nat):List Mb:= [(a,t),((wA .u8 64 []),(28,(0,0))),((wA .u8 64 []),(28,(0,0))),((wA .u8 c3 (sh5 N)),(5,(0,0)))]
def du52p_m (a:Array Value) (t:Tq) (bp:Option Addr) (l cp:Nat) (N:List Int) (j:Nat→Value):List Value:=([.slice bp l cp,j 1,.pointer (some ⟨1,0,none⟩),.pointer (some ⟨2,0,none⟩),j 4,j 5,.agg (wA .i64 14 [64,80,28,34,39,14,18,41,1,8,7,19,61,6]),.slice bp l cp] ++ (J j 8 12))
def du52p_b (a:Array Value) (t:Tq) (bp:Option Addr) (l cp:Nat) (N:List Int) (j:Nat→Value) (k1:Nat):List Value:=([.slice bp l cp,j 1,.pointer (some ⟨1,0,none⟩),.pointer (some ⟨2,0,none⟩),.slice (some ⟨3,0,none⟩) 64 k1,j 5,.agg (wA .i64 14 [64,80,28,34,39,14,18,41,1,8,7,19,61,6]),.slice bp l cp,.slice (some ⟨3,0,none⟩) 64 k1] ++ (J j 9 11))
theorem du52p_1 (a:Array Value) (t:Tq) (bp:Option Addr) (l cp:Nat) (N:List Int) (j:Nat→Value):evL (yty.enf tabQ5 1) (oT (cAt [1,1,0] (bdy Tryd.f14))) ((oT (cAt [1,1,0] (bdy Tryd.f14))).toList.take 2) ⟨du5C_s a t bp l cp N j,du5C_m a t bp l cp N,True,[]⟩=some ⟨du52p_m a t bp l cp N j,[(a,t),((wA .u8 64 []),(28,(0,0))),((wA .u8 64 []),(28,(0,0)))],((True∧True)∧True),[]⟩:=by kernel_rfl
theorem du52p_2 (a:Array Value) (t:Tq) (bp:Option Addr) (l cp:Nat) (N:List Int) (j:Nat→Value) (k1:Nat):evL (yty.enf tabQ5 1) (oT (cAt [1,1,0] (bdy Tryd.f14))) ((oT (cAt [1,1,0] (bdy Tryd.f14))).toList.drop 3) ⟨putS (du52p_m a t bp l cp N j) (some 8) (.slice (some ⟨3,0,none⟩) 64 k1),[(a,t),((wA .u8 64 []),(28,(0,0))),((wA .u8 64 []),(28,(0,0)))] ++ [(wA .u8 k1 (sh5 N),5,(0,0))],True,[]⟩=some ⟨du52p_b a t bp l cp N j k1,[(a,t),((wA .u8 64 []),(28,(0,0))),((wA .u8 64 []),(28,(0,0))),((wA .u8 k1 (sh5 N)),(5,(0,0)))],(True∧True),[]⟩:=by kernel_rfl
theorem du52p_r (a:Array Value) (t:Tq) (bp:Option Addr) (l cp:Nat) (N:List Int) (j:Nat→Value)  (hu:SrcOk .u8 [(a,t)] (.slice bp l cp) N) (hN:N.length=l) (hl:l≤1000000000) (hM:MakesA Tryd.prog 37 [(a,t),((wA .u8 64 []),(28,(0,0))),((wA .u8 64 []),(28,(0,0)))] [.agg (wA .i64 14 [64,80,28,34,39,14,18,41,1,8,7,19,61,6]),.slice bp l cp] .u8 64 (sh5 N) 5 0) {c0:Prop} {ch0:List (Option Value)}:Runs Tryd.prog (cAt [1,1,0] (bdy Tryd.f14)) ⟨du5C_s a t bp l cp N j,du5C_m a t bp l cp N,c0,ch0⟩ (fun e s=>e= .normal∧∃ k1 c ch,((sh5 N)).length≤k1∧s=⟨du52p_b a t bp l cp N j k1,[(a,t),((wA .u8 64 []),(28,(0,0))),((wA .u8 64 []),(28,(0,0))),((wA .u8 k1 (sh5 N)),(5,(0,0)))],c,ch⟩) 1:=
  (runs_call (E:=yty.enf tabQ5 1) (c:=(cAt [1,1,0] (bdy Tryd.f14))) (f:=37) (xs:= [.tmp 6,.tmp 7]) (d:=some 8) (by kernel_rfl) 2 (du52p_1 a t bp l cp N j) ⟨⟨trivial,trivial⟩,trivial⟩ (by kernel_rfl) (call_of Tryd.func37 (by kernel_rfl) (by kernel_rfl)) rfl hM rfl (of_decide_eq_true (by kernel_rfl)) _ (du52p_2 a t bp l cp N j) (fun k1 e2=>⟨trivial,trivial⟩)).mono (fun e s ⟨h1,k1,h3,h4⟩=>⟨h1,k1,_,_,h3,h4⟩)
theorem du52 (a:Array Value) (t:Tq) (bp:Option Addr) (l cp:Nat) (N:List Int) (j:Nat→Value) (hu:SrcOk .u8 [(a,t)] (.slice bp l cp) N) (hN:N.length=l) (hl:l≤1000000000)  {c0:Prop} {ch0:List (Option Value)}:Runs Tryd.prog (cAt [1,1,0] (bdy Tryd.f14)) ⟨du5C_s a t bp l cp N j,du5C_m a t bp l cp N,c0,ch0⟩ (fun e s=>e= .normal∧∃(k1:Nat) (j:Nat→Value) (c:Prop) (ch:List (Option Value)),(64≤k1)∧s=⟨du5D_s a t bp l cp N k1 j,du5D_m a t bp l cp N k1,c,ch⟩) 1:=by
  refine(du52p_r a t bp l cp N j hu hN hl   (DSumA5_c (SrcOk.app (x:= [_,_]) hu) ⟨_,rfl⟩ hN hl)).mono ?_
  rintro e s ⟨rfl,k1,c,ch,hk1,hs⟩
  refine⟨rfl,k1,fun q=>s.tm.getD q undef,c,ch,by have:=sh5_len N;omega,?_⟩
  subst hs
  kernel_rfl
abbrev du5E_s (a:Array Value) (t:Tq) (bp:Option Addr) (l cp:Nat) (N:List Int) (c3 i:Nat) (Y:List Int) (j:Nat→Value):List Value:=([j 0,j 1,.pointer (some ⟨1,0,none⟩),.pointer (some ⟨2,0,none⟩),.slice (some ⟨3,0,none⟩) 64 c3,.int .i64 ((i:Nat):Int)] ++ (J j 6 14))
abbrev du5E_m (a:Array Value) (t:Tq) (bp:Option Addr) (l cp:Nat) (N:List Int) (c3 i:Nat) (Y:List Int):List Mb:= [(a,t),((wA .u8 64 []),(28,(0,0))),((wA .u8 64 Y),(28,(0,0))),((wA .u8 c3 (sh5 N)),(5,(0,0)))]
def du53p_h (i:Nat):Hn:=⟨0,[],[],[],[]⟩
def du53p_b (a:Array Value) (t:Tq) (bp:Option Addr) (l cp:Nat) (N:List Int) (c3:Nat) (j:Nat→Value):List Value:=([j 0,j 1,.pointer (some ⟨1,0,none⟩),.pointer (some ⟨2,0,none⟩),.slice (some ⟨3,0,none⟩) 64 c3,.int .i64 0] ++ (J j 6 14))
theorem du53p_0 (a:Array Value) (t:Tq) (bp:Option Addr) (l cp:Nat) (N:List Int) (c3:Nat) (j:Nat→Value):evC (yty.enf tabQ5 1) du53p_h (cAt [1,1,1,0,0] (bdy Tryd.f14)) ⟨du5D_s a t bp l cp N c3 j,du5D_m a t bp l cp N c3,True,[]⟩=some (.normal,⟨du53p_b a t bp l cp N c3 j,[(a,t),((wA .u8 64 []),(28,(0,0))),((wA .u8 64 []),(28,(0,0))),((wA .u8 c3 (sh5 N)),(5,(0,0)))],(True∧True),[]⟩):=by kernel_rfl
theorem du53 (a:Array Value) (t:Tq) (bp:Option Addr) (l cp:Nat) (N:List Int) (c3:Nat) (j:Nat→Value) (hu:SrcOk .u8 [(a,t)] (.slice bp l cp) N) (hN:N.length=l) (hl:l≤1000000000) (hc:64≤c3)  {c0:Prop} {ch0:List (Option Value)}:Runs Tryd.prog (cAt [1,1,1,0,0] (bdy Tryd.f14)) ⟨du5D_s a t bp l cp N c3 j,du5D_m a t bp l cp N c3,c0,ch0⟩ (fun e s=>e= .normal∧∃(j:Nat→Value) (c:Prop) (ch:List (Option Value)),(([]:List Int)=(sh5 N).take 0)∧(([]:List Int).length=0)∧(0≤64)∧s=⟨du5E_s a t bp l cp N c3 0 ([]:List Int) j,du5E_m a t bp l cp N c3 0 ([]:List Int),c,ch⟩) 1:=by
  refine(runs_ev mixed _ (du53p_0 a t bp l cp N c3 j) ⟨trivial,trivial⟩).mono ?_
  rintro e s ⟨rfl,hs⟩
  refine⟨rfl,fun q=>s.tm.getD q undef,s.c,s.ch,rfl,rfl,Nat.zero_le _,?_⟩
  subst hs
  kernel_rfl
abbrev du5F_s (a:Array Value) (t:Tq) (bp:Option Addr) (l cp:Nat) (N:List Int) (c3 i:Nat) (Y:List Int) (j:Nat→Value):List Value:=([j 0,j 1,.pointer (some ⟨1,0,none⟩),.pointer (some ⟨2,0,none⟩),.slice (some ⟨3,0,none⟩) 64 c3,.int .i64 ((i:Nat):Int)] ++ (J j 6 14))
abbrev du5F_m (a:Array Value) (t:Tq) (bp:Option Addr) (l cp:Nat) (N:List Int) (c3 i:Nat) (Y:List Int):List Mb:= [(a,t),((wA .u8 64 []),(28,(0,0))),((wA .u8 64 Y),(28,(0,0))),((wA .u8 c3 (sh5 N)),(5,(0,0)))]
def du54p_h (i:Nat):Hn:=⟨0,[],[],[],[]⟩
def du54p_b (a:Array Value) (t:Tq) (bp:Option Addr) (l cp:Nat) (N:List Int) (c3 i:Nat) (Y:List Int) (j:Nat→Value):List Value:=([j 0,j 1,.pointer (some ⟨1,0,none⟩),.pointer (some ⟨2,0,none⟩),.slice (some ⟨3,0,none⟩) 64 c3,.int .i64 ((i+1:Nat):Int)] ++ (J j 6 3 ++ ([.int .i64 ((i:Nat):Int),.bool true,.int .i64 ((i:Nat):Int),.int .i64 ((i+1:Nat):Int),.int .i64 ((i:Nat):Int),.slice (some ⟨3,0,none⟩) 64 c3,.int .i64 ((i:Nat):Int),.pointer (some ⟨3,0+Int.toNat ((i:Nat):Int)*1,none⟩),.int .u8 ((sh5 N).getD i 0),.pointer (some ⟨2,0+Int.toNat ((i:Nat):Int)*1,none⟩),j 19])))
theorem du54p_0 (a:Array Value) (t:Tq) (bp:Option Addr) (l cp:Nat) (N:List Int) (c3 i:Nat) (Y:List Int) (j:Nat→Value):evC (yty.enf tabQ5 1) du54p_h (cAt [1,1,1,0,1,0,0] (bdy Tryd.f14)) ⟨du5E_s a t bp l cp N c3 i Y j,du5E_m a t bp l cp N c3 i Y,True,[some (.bool true),some (.int .u8 ((sh5 N).getD i 0)),some (.agg (wA .u8 64 (Y ++ [((sh5 N).getD i 0)]))),some (.int .i64 ((i+1:Nat):Int))]⟩=some (.normal,⟨du54p_b a t bp l cp N c3 i Y j,[(a,t),((wA .u8 64 []),(28,(0,0))),((wA .u8 64 (Y ++ [((sh5 N).getD i 0)])),(28,(0,0))),((wA .u8 c3 (sh5 N)),(5,(0,0)))],((((((((((((True∧True)∧(True∧(decide (((i:Nat):Int)<64))=true))∧True)∧True)∧True)∧((0:Int)≤((i:Nat):Int)∧(((i:Nat):Int):Int)<((64:Nat):Int)))∧(((wA .u8 c3 (sh5 N))[(0+Int.toNat ((i:Nat):Int)*1)]? =some (.int .u8 ((sh5 N).getD i 0)))∧((sh5 N).getD i 0)=((sh5 N).getD i 0)))∧(0≤((i:Nat):Int)∧((i:Nat):Int)<((64:Nat):Int)))∧((0+Int.toNat ((i:Nat):Int)*1)<(wA .u8 64 Y).size∧(wA .u8 64 Y).setIfInBounds (0+Int.toNat ((i:Nat):Int)*1) (.int .u8 ((sh5 N).getD i 0))=(wA .u8 64 (Y ++ [((sh5 N).getD i 0)]))))∧True)∧(True∧(IntKind.i64.wrap (((i:Nat):Int)+1))=((i+1:Nat):Int)))∧True),[]⟩):=by kernel_rfl
theorem du54 (a:Array Value) (t:Tq) (bp:Option Addr) (l cp:Nat) (N:List Int) (c3 i:Nat) (Y:List Int) (j:Nat→Value) (hu:SrcOk .u8 [(a,t)] (.slice bp l cp) N) (hN:N.length=l) (hl:l≤1000000000) (hc:64≤c3) (hY:Y=(sh5 N).take i) (hYl:Y.length=i) (hi:i≤64) (hlt:i<64) {c0:Prop} {ch0:List (Option Value)}:Runs Tryd.prog (cAt [1,1,1,0,1,0,0] (bdy Tryd.f14)) ⟨du5E_s a t bp l cp N c3 i Y j,du5E_m a t bp l cp N c3 i Y,c0,ch0⟩ (fun e s=>e= .normal∧∃(j:Nat→Value) (c:Prop) (ch:List (Option Value)),((Y ++ [(sh5 N).getD i 0])=(sh5 N).take (i+1))∧((Y ++ [(sh5 N).getD i 0]).length=(i+1))∧((i+1)≤64)∧s=⟨du5E_s a t bp l cp N c3 (i+1) (Y ++ [(sh5 N).getD i 0]) j,du5E_m a t bp l cp N c3 (i+1) (Y ++ [(sh5 N).getD i 0]),c,ch⟩) 1:=by
  have h0:(decide (((i:Nat):Int)<64))=true:=(decide_eq_true (by omega))
  refine(runs_ev mixed _ (du54p_0 a t bp l cp N c3 i Y j) ⟨⟨⟨⟨⟨⟨⟨⟨⟨⟨⟨⟨trivial,trivial⟩,⟨trivial,h0⟩⟩,trivial⟩,trivial⟩,trivial⟩,(by(try simp only[Int.toNat_natCast,wA_size]);omega)⟩,⟨(wA_get (by omega) (by omega)),rfl⟩⟩,(by(try simp only[Int.toNat_natCast,wA_size]);omega)⟩,wA_set (by omega) (by omega)⟩,trivial⟩,⟨trivial,(by rw[IntKind.wrap_i64];omega)⟩⟩,trivial⟩).mono ?_
  rintro e s ⟨rfl,hs⟩
  refine⟨rfl,fun q=>s.tm.getD q undef,s.c,s.ch,by rw[hY];exact tk_step (by rw[sh5_len];exact hlt),by simp only[List.length_append,List.length_cons,List.length_nil];omega,by omega,?_⟩
  subst hs
  kernel_rfl
def du55p_h (i:Nat):Hn:=⟨0,[],[],[],[]⟩
def du55p_b (a:Array Value) (t:Tq) (bp:Option Addr) (l cp:Nat) (N:List Int) (c3 i:Nat) (Y:List Int) (j:Nat→Value):List Value:=([j 0,j 1,.pointer (some ⟨1,0,none⟩),.pointer (some ⟨2,0,none⟩),.slice (some ⟨3,0,none⟩) 64 c3,.int .i64 ((i:Nat):Int)] ++ (J j 6 3 ++ ([.int .i64 ((i:Nat):Int),.bool false] ++ (J j 11 9))))
theorem du55p_0 (a:Array Value) (t:Tq) (bp:Option Addr) (l cp:Nat) (N:List Int) (c3 i:Nat) (Y:List Int) (j:Nat→Value):evC (yty.enf tabQ5 1) du55p_h (cAt [1,1,1,0,1,0,0] (bdy Tryd.f14)) ⟨du5E_s a t bp l cp N c3 i Y j,du5E_m a t bp l cp N c3 i Y,True,[some (.bool false)]⟩=some ((.exit 0),⟨du55p_b a t bp l cp N c3 i Y j,[(a,t),((wA .u8 64 []),(28,(0,0))),((wA .u8 64 Y),(28,(0,0))),((wA .u8 c3 (sh5 N)),(5,(0,0)))],((True∧True)∧(True∧(decide (((i:Nat):Int)<64))=false)),[]⟩):=by kernel_rfl
theorem du55 (a:Array Value) (t:Tq) (bp:Option Addr) (l cp:Nat) (N:List Int) (c3 i:Nat) (Y:List Int) (j:Nat→Value) (hu:SrcOk .u8 [(a,t)] (.slice bp l cp) N) (hN:N.length=l) (hl:l≤1000000000) (hc:64≤c3) (hY:Y=(sh5 N).take i) (hYl:Y.length=i) (hi:i≤64) (hge:¬ i<64) {c0:Prop} {ch0:List (Option Value)}:Runs Tryd.prog (cAt [1,1,1,0,1,0,0] (bdy Tryd.f14)) ⟨du5E_s a t bp l cp N c3 i Y j,du5E_m a t bp l cp N c3 i Y,c0,ch0⟩ (fun e s=>e=(.exit 0)∧∃(j:Nat→Value) (c:Prop) (ch:List (Option Value)),(i=64)∧s=⟨du5F_s a t bp l cp N c3 i Y j,du5F_m a t bp l cp N c3 i Y,c,ch⟩) 1:=by
  have h0:(decide (((i:Nat):Int)<64))=false:=(decide_eq_false (by omega))
  refine(runs_ev mixed _ (du55p_0 a t bp l cp N c3 i Y j) ⟨⟨trivial,trivial⟩,⟨trivial,h0⟩⟩).mono ?_
  rintro e s ⟨rfl,hs⟩
  refine⟨rfl,fun q=>s.tm.getD q undef,s.c,s.ch,by omega,?_⟩
  subst hs
  kernel_rfl
theorem du56L (a:Array Value) (t:Tq) (bp:Option Addr) (l:Nat) (cp:Nat) (N:List Int) (c3:Nat) (j:Nat→Value) (hu:SrcOk .u8 [(a,t)] (.slice bp l cp) N) (hN:N.length=l) (hl:l≤1000000000) (hc:64≤c3) (ihY:([]:List Int)=(sh5 N).take 0) (ihYl:([]:List Int).length=0) (ihi:0≤64)  {c0:Prop} {ch0:List (Option Value)}:Runs Tryd.prog (.loop (cAt [1,1,1,0,1,0,0] (bdy Tryd.f14))) ⟨du5E_s a t bp l cp N c3 0 ([]:List Int) j,du5E_m a t bp l cp N c3 0 ([]:List Int),c0,ch0⟩ (fun e s=>e= .exit 0∧∃(i:Nat) (Y:List Int) (j:Nat→Value) (c:Prop) (ch:List (Option Value)),(Y=(sh5 N).take i)∧(Y.length=i)∧(i=64)∧s=⟨du5F_s a t bp l cp N c3 i Y j,du5F_m a t bp l cp N c3 i Y,c,ch⟩) 1:=by
  refine runs_loop (fun M s=>∃(i:Nat) (Y:List Int) (j:Nat→Value) (c:Prop) (ch:List (Option Value)),(Y=(sh5 N).take i)∧(Y.length=i)∧(i≤64)∧M=64 - i∧s=⟨du5E_s a t bp l cp N c3 i Y j,du5E_m a t bp l cp N c3 i Y,c,ch⟩) (64 - 0) ⟨0,([]:List Int),j,c0,ch0,ihY,ihYl,ihi,rfl,rfl⟩ ?_
  rintro M s ⟨i,Y,j,c,ch,hY,hYl,hi,rfl,rfl⟩
  by_cases hlt:i<64
  · skip
    refine(du54 a t bp l cp N c3 i Y j hu hN hl hc hY hYl hi hlt).mono ?_
    rintro e s ⟨rfl,j,c,ch,f4,f5,f6,rfl⟩
    exact .inl ⟨rfl,64 - (i+1),by omega,⟨(i+1),(Y ++ [(sh5 N).getD i 0]),j,c,ch,f4,f5,f6,rfl,rfl⟩⟩
  · refine (du55 a t bp l cp N c3 i Y j hu hN hl hc hY hYl hi hlt).mono ?_
    intro e s hh
    obtain⟨rfl,j,c,ch,f6,rfl⟩:=hh
    exact .inr ⟨by simp,rfl,i,Y,j,c,ch,hY,hYl,f6,rfl⟩
theorem du56 (a:Array Value) (t:Tq) (bp:Option Addr) (l:Nat) (cp:Nat) (N:List Int) (c3:Nat) (j:Nat→Value) (hu:SrcOk .u8 [(a,t)] (.slice bp l cp) N) (hN:N.length=l) (hl:l≤1000000000) (hc:64≤c3) (ihY:([]:List Int)=(sh5 N).take 0) (ihYl:([]:List Int).length=0) (ihi:0≤64)  {c0:Prop} {ch0:List (Option Value)}:Runs Tryd.prog (cAt [1,1,1,0,1] (bdy Tryd.f14)) ⟨du5E_s a t bp l cp N c3 0 ([]:List Int) j,du5E_m a t bp l cp N c3 0 ([]:List Int),c0,ch0⟩ (fun e s=>e= .normal∧∃(i:Nat) (Y:List Int) (j:Nat→Value) (c:Prop) (ch:List (Option Value)),(Y=(sh5 N).take i)∧(Y.length=i)∧(i=64)∧s=⟨du5F_s a t bp l cp N c3 i Y j,du5F_m a t bp l cp N c3 i Y,c,ch⟩) 1:=by
  rw[show(cAt [1,1,1,0,1] (bdy Tryd.f14))= .block 0 (.loop (cAt [1,1,1,0,1,0,0] (bdy Tryd.f14))) from by kernel_rfl]
  refine runs_block (du56L a t bp l cp N c3 j hu hN hl hc ihY ihYl ihi ) ?_
  rintro e s ⟨rfl,hh⟩
  exact .inl ⟨rfl,rfl,hh⟩
theorem du57 (a:Array Value) (t:Tq) (bp:Option Addr) (l cp:Nat) (N:List Int) (c3:Nat) (j:Nat→Value) (hu:SrcOk .u8 [(a,t)] (.slice bp l cp) N) (hN:N.length=l) (hl:l≤1000000000) (hc:64≤c3)  {c0:Prop} {ch0:List (Option Value)}:Runs Tryd.prog (cAt [1,1,1,0] (bdy Tryd.f14)) ⟨du5D_s a t bp l cp N c3 j,du5D_m a t bp l cp N c3,c0,ch0⟩ (fun e s=>e= .normal∧∃(i1:Nat) (Y1:List Int) (j:Nat→Value) (c:Prop) (ch:List (Option Value)),(Y1=(sh5 N).take i1)∧(Y1.length=i1)∧(i1=64)∧s=⟨du5F_s a t bp l cp N c3 i1 Y1 j,du5F_m a t bp l cp N c3 i1 Y1,c,ch⟩) 1:=by
  rw[show(cAt [1,1,1,0] (bdy Tryd.f14))=(.seq (cAt [1,1,1,0,0] (bdy Tryd.f14)) (cAt [1,1,1,0,1] (bdy Tryd.f14))) from by kernel_rfl]
  refine runs_seq (du53 a t bp l cp N c3 j hu hN hl hc ) (fun s hh=> ?_) (fun e s hne hh=>absurd hh.1 hne)
  obtain⟨_,j,c,ch,f0_4,f0_5,f0_6,rfl⟩:=hh
  refine(du56 a t bp l cp N c3 j hu hN hl hc f0_4 f0_5 f0_6 ).mono ?_
  rintro e s ⟨rfl,i1,Y1,j,c,ch,f1_4,f1_5,f1_6,rfl⟩
  exact⟨rfl,i1,Y1,j,c,ch,f1_4,f1_5,f1_6,rfl⟩
abbrev du5G_s (a:Array Value) (t:Tq) (bp:Option Addr) (l cp:Nat) (N:List Int) (c3 i:Nat) (Y:List Int) (j:Nat→Value):List Value:=([j 0,j 1,.pointer (some ⟨1,0,none⟩)] ++ (J j 3 17))
abbrev du5G_m (a:Array Value) (t:Tq) (bp:Option Addr) (l cp:Nat) (N:List Int) (c3 i:Nat) (Y:List Int):List Mb:= [(a,t),((wA .u8 64 Y),(28,(0,0))),((wA .u8 64 Y),(28,(0,0))),((wA .u8 c3 (sh5 N)),(5,(0,0)))]
def du58p_h (i:Nat):Hn:=⟨0,[],[],[],[]⟩
def du58p_b (a:Array Value) (t:Tq) (bp:Option Addr) (l cp:Nat) (N:List Int) (c3 i:Nat) (Y:List Int) (j:Nat→Value):List Value:=([j 0,j 1,.pointer (some ⟨1,0,none⟩),.pointer (some ⟨2,0,none⟩),.slice (some ⟨3,0,none⟩) 64 c3,.int .i64 ((i:Nat):Int)] ++ (J j 6 13 ++ ([.agg (wA .u8 64 Y)])))
theorem du58p_0 (a:Array Value) (t:Tq) (bp:Option Addr) (l cp:Nat) (N:List Int) (c3 i:Nat) (Y:List Int) (j:Nat→Value):evC (yty.enf tabQ5 1) du58p_h (cAt [1,1,1,1] (bdy Tryd.f14)) ⟨du5F_s a t bp l cp N c3 i Y j,du5F_m a t bp l cp N c3 i Y,True,[]⟩=some (.ret,⟨du58p_b a t bp l cp N c3 i Y j,[(a,t),((wA .u8 64 Y),(28,(0,0))),((wA .u8 64 Y),(28,(0,0))),((wA .u8 c3 (sh5 N)),(5,(0,0)))],((True∧True)∧((wA .u8 64 Y).all (fun v=>v.oneCell')=true)),[]⟩):=by kernel_rfl
theorem du58 (a:Array Value) (t:Tq) (bp:Option Addr) (l cp:Nat) (N:List Int) (c3 i:Nat) (Y:List Int) (j:Nat→Value) (hu:SrcOk .u8 [(a,t)] (.slice bp l cp) N) (hN:N.length=l) (hl:l≤1000000000) (hc:64≤c3) (hY:Y=(sh5 N).take i) (hYl:Y.length=i) (hi:i=64)  {c0:Prop} {ch0:List (Option Value)}:Runs Tryd.prog (cAt [1,1,1,1] (bdy Tryd.f14)) ⟨du5F_s a t bp l cp N c3 i Y j,du5F_m a t bp l cp N c3 i Y,c0,ch0⟩ (fun e s=>e= .ret∧∃(j:Nat→Value) (c:Prop) (ch:List (Option Value)),s=⟨du5G_s a t bp l cp N c3 i Y j,du5G_m a t bp l cp N c3 i Y,c,ch⟩) 1:=by
  refine(runs_ev mixed _ (du58p_0 a t bp l cp N c3 i Y j) ⟨⟨trivial,trivial⟩,(wA_one _ _ _)⟩).mono ?_
  rintro e s ⟨rfl,hs⟩
  refine⟨rfl,fun q=>s.tm.getD q undef,s.c,s.ch,?_⟩
  subst hs
  kernel_rfl
theorem du59 (a:Array Value) (t:Tq) (bp:Option Addr) (l cp:Nat) (N:List Int) (j:Nat→Value) (hu:SrcOk .u8 [(a,t)] (.slice bp l cp) N) (hN:N.length=l) (hl:l≤1000000000)  {c0:Prop} {ch0:List (Option Value)}:Runs Tryd.prog (cAt [] (bdy Tryd.f14)) ⟨du5A_s a t bp l cp N j,du5A_m a t bp l cp N,c0,ch0⟩ (fun e s=>e= .ret∧∃(k12:Nat) (i13:Nat) (Y13:List Int) (j:Nat→Value) (c:Prop) (ch:List (Option Value)),(64≤k12)∧(Y13=(sh5 N).take i13)∧(Y13.length=i13)∧(i13=64)∧s=⟨du5G_s a t bp l cp N k12 i13 Y13 j,du5G_m a t bp l cp N k12 i13 Y13,c,ch⟩) 1:=by
  rw[show(cAt [] (bdy Tryd.f14))=(.seq (cAt [0] (bdy Tryd.f14)) (.seq (cAt [1,0] (bdy Tryd.f14)) (.seq (cAt [1,1,0] (bdy Tryd.f14)) (.seq (cAt [1,1,1,0] (bdy Tryd.f14)) (cAt [1,1,1,1] (bdy Tryd.f14)))))) from by kernel_rfl]
  refine runs_seq (du50 a t bp l cp N j hu hN hl ) (fun s hh=> ?_) (fun e s hne hh=>absurd hh.1 hne)
  obtain⟨_,j,c,ch,rfl⟩:=hh
  refine runs_seq (du51 a t bp l cp N j hu hN hl ) (fun s hh=> ?_) (fun e s hne hh=>absurd hh.1 hne)
  obtain⟨_,j,c,ch,rfl⟩:=hh
  refine runs_seq (du52 a t bp l cp N j hu hN hl ) (fun s hh=> ?_) (fun e s hne hh=>absurd hh.1 hne)
  obtain⟨_,k12,j,c,ch,f2_3,rfl⟩:=hh
  refine runs_seq (du57 a t bp l cp N k12 j hu hN hl f2_3 ) (fun s hh=> ?_) (fun e s hne hh=>absurd hh.1 hne)
  obtain⟨_,i13,Y13,j,c,ch,f3_4,f3_5,f3_6,rfl⟩:=hh
  refine(du58 a t bp l cp N k12 i13 Y13 j hu hN hl f2_3 f3_4 f3_5 f3_6 ).mono ?_
  rintro e s ⟨rfl,j,c,ch,rfl⟩
  exact⟨rfl,k12,i13,Y13,j,c,ch,f2_3,f3_4,f3_5,f3_6,rfl⟩
theorem DS5_c (a:Array Value) (t:Tq) (bp:Option Addr) (l cp:Nat) (N:List Int) (hu:SrcOk .u8 [(a,t)] (.slice bp l cp) N) (hN:N.length=l) (hl:l≤1000000000):Reads Tryd.prog 14 [(a,t)] [.slice bp l cp] (.agg (wA .u8 64 (sh5 N))):=by
  refine reads_runs (fk:=1) (yty.enf tabQ5 1) Tryd.func14 (c:=bdy Tryd.f14) (by kernel_rfl) ⟨rfl,by decide⟩ (args:= [.slice bp l cp]) (by show(okp 1 (.slice bp l cp) && true)=true;rw[okp_src hu];rfl) (du59 a t bp l cp N (fun _=>undef) hu hN hl) ?_
  rintro e s ⟨rfl,hh⟩
  obtain⟨k12,i,Y,j,c,ch,hc,hY,hYl,hi,rfl⟩:=hh
  have hL:Y=sh5 N:=by rw[hY,hi,List.take_of_length_le (by rw[sh5_len];decide)]
  subst hL
  exact⟨rfl,[.agg (wA .u8 64 (sh5 N))],by kernel_rfl,rfl⟩
def pDS5 : Entry Tryd.prog where
  f:=14
  g := fun mem xs => match xs with
    | [.slice bp l cp]=>some (.agg (wA .u8 64 (sh5 (bytesOf mem bp l))),(SrcOk .u8 mem (.slice bp l cp) (bytesOf mem bp l)∧(∃ x,mem[0]? =some x)∧(bytesOf mem bp l).length=l∧l≤1000000000))
    |_=>none
  ok := fun mem xs u c e hc w β hw _ => by
    split at e
    · simp only [Option.some.injEq, Prod.mk.injEq] at e
      obtain⟨rfl,rfl⟩:=e
      exact reads_lift hc.1 hc.2.1 (fun a t bp h=>DS5_c a t bp _ _ _ h hc.2.2.1 hc.2.2.2) hw
    · cases e
  call:=call_of Tryd.func14 (by kernel_rfl) (by kernel_rfl)
end Go.Proofs.YteikpadpogkepaaDoor

set_option linter.unusedSimpArgs false
set_option linter.unusedVariables false
/-! Sha256, Sha512: the laws. -/
namespace Go.Proofs.YteikpadpogkepaaDoor
open Go.RowKit Go.Ev
def tabL6:List (Entry Tryd.prog):=pDS5 :: tabS9
theorem lentb {a:Array Value} {o l c:Nat} (hb:bytesAt a o l) (hc:l+1≤c):bytesAt (wA .u8 c (bL a o l ++ [77])) 0 l:=fun j hj=>by
  rw[Nat.zero_add]
  have e:iat (wA .u8 c (bL a o l ++ [77])) j=iat a (o+j):=by
    unfold iat
    rw[wA_at (by omega),getD_app,bL_len,if_pos hj,bL_at,if_pos hj]
    rfl
  have h:=hb j hj
  rw[e]
  refine⟨?_,h.2⟩
  rw[wA_at (by omega),getD_app,bL_len,if_pos hj,bL_at,if_pos hj]
theorem lent_bL {a:Array Value} {o l c:Nat} (hb:bytesAt a o l) (hc:l+1≤c):bL (wA .u8 c (bL a o l ++ [77])) 0 l=bL a o l:=by
  unfold bL
  apply List.map_congr_left
  intro j hj
  have hj:j<l:=by simpa using hj
  rw[Nat.zero_add]
  have e:iat (wA .u8 c (bL a o l ++ [77])) j=iat a (o+j):=by
    unfold iat
    rw[wA_at (by omega),getD_app,bL_len,if_pos hj,bL_at,if_pos hj]
    rfl
  exact e
theorem ext_bL {a:Array Value} {o l:Nat} (hb:bytesAt a o l) (hz:o+l≤a.size):a.extract o (o+l)=(Go.Ev.iv .u8 (bL a o l)).toArray:=by
  rcases(src_b (mem:= [(a,(0,0,0))]) (i:=0) (c:=l) rfl hb hz).h with⟨h,_⟩|⟨j,p,c,src,st,h1,h2,h3,h4⟩
  · cases h
  · rw [bL_len] at h1 h4
    cases h1
    cases h2
    exact h4
theorem b8_ext {a:Array Value} {o l:Nat} (hb:bytesAt a o l) (hz:o+l≤a.size):(a.extract o (o+l)).all isB8=true:=by
  rw[ext_bL hb hz]
  rw[Array.all_eq_true']
  intro v hv
  have hv:v ∈ Go.Ev.iv .u8 (bL a o l):=by simpa using hv
  obtain⟨x,hx,rfl⟩:=List.mem_map.1 hv
  obtain⟨j,hj,rfl⟩:=List.mem_map.1 hx
  have hj:j<l:=by simpa using hj
  have:=(hb j hj).2
  simp[isB8,this.1,this.2]
theorem at77 {N:List Int} {l c p:Nat} (hN:N.length=l) (hc:l+1≤c) (hp:p=l):(wA .u8 c (N ++ [77]))[p]? =some (.int .u8 77):=by
  subst hp
  rw[wA_at (by omega),getD_app,if_neg (by omega),hN,Nat.sub_self];rfl
theorem wA_iv {n:Nat} {L:List Int} (h:L.length=n):wA .u8 n L=(L.map (Value.int .u8)).toArray:=by
  have:=wA_list .u8 n L (by omega)
  rw[this,h,Nat.sub_self]
  simp[Go.Ev.iv]
abbrev lw5sA_s (g0 g1 t:Tq) (a:Array Value) (o l cp:Nat) (j:Nat→Value):List Value:=([.slice (some ⟨2,o,none⟩) l cp] ++ (JU 38))
abbrev lw5sA_m (g0 g1 t:Tq) (a:Array Value) (o l cp:Nat):List Mb:= [((wA .u32 64 kL2),g0),((wA .u64 80 kL5),g1),(a,t)]
abbrev lw5sB_s (g0 g1 t:Tq) (a:Array Value) (o l cp:Nat) (j:Nat→Value):List Value:=([.slice (some ⟨2,o,none⟩) l cp,j 1,.bool false] ++ (J j 3 36))
abbrev lw5sB_m (g0 g1 t:Tq) (a:Array Value) (o l cp:Nat):List Mb:= [((wA .u32 64 kL2),g0),((wA .u64 80 kL5),g1),(a,t)]
def lw5s0p_h (i:Nat):Hn:=if i=5 then⟨27,[],[],[],[]⟩ else⟨0,[],[],[],[]⟩
def lw5s0p_b (g0 g1 t:Tq) (a:Array Value) (o l cp:Nat) (j:Nat→Value):List Value:=([.slice (some ⟨2,o,none⟩) l cp,undef,.bool false] ++ (JU 36))
theorem lw5s0p_0 (g0 g1 t:Tq) (a:Array Value) (o l cp:Nat) (j:Nat→Value):evC (yty.enm tabL6 [mEnd] 2000003) lw5s0p_h (cAt [0] (bdy Tryd.f4)) ⟨lw5sA_s g0 g1 t a o l cp j,lw5sA_m g0 g1 t a o l cp,True,[]⟩=some (.normal,⟨lw5s0p_b g0 g1 t a o l cp j,[((wA .u32 64 kL2),g0),((wA .u64 80 kL5),g1),(a,t)],(True∧True),[]⟩):=by kernel_rfl
theorem lw5s0 (g0 g1 t:Tq) (a:Array Value) (o l cp:Nat) (j:Nat→Value) (hb:bytesAt a o l) (hz:o+l≤a.size) (hcp:l≤cp) (hl:l≤4096)  {c0:Prop} {ch0:List (Option Value)}:Runs Tryd.prog (cAt [0] (bdy Tryd.f4)) ⟨lw5sA_s g0 g1 t a o l cp j,lw5sA_m g0 g1 t a o l cp,c0,ch0⟩ (fun e s=>e= .normal∧∃(j:Nat→Value) (c:Prop) (ch:List (Option Value)),s=⟨lw5sB_s g0 g1 t a o l cp j,lw5sB_m g0 g1 t a o l cp,c,ch⟩) 2000003:=by
  refine(runs_ev mixed _ (lw5s0p_0 g0 g1 t a o l cp j) ⟨trivial,trivial⟩).mono ?_
  rintro e s ⟨rfl,hs⟩
  refine⟨rfl,fun q=>s.tm.getD q undef,s.c,s.ch,?_⟩
  subst hs
  kernel_rfl
def lw5s1p_h (i:Nat):Hn:=if i=5 then⟨27,[],[],[],[]⟩ else⟨0,[],[],[],[]⟩
def lw5s1p_b (g0 g1 t:Tq) (a:Array Value) (o l cp:Nat) (j:Nat→Value):List Value:=([.slice (some ⟨2,o,none⟩) l cp,j 1,.bool false,j 3,j 4,.slice (some ⟨2,o,none⟩) l cp,.int .i64 ((l:Nat):Int),.bool false] ++ (J j 8 31))
theorem lw5s1p_0 (g0 g1 t:Tq) (a:Array Value) (o l cp:Nat) (j:Nat→Value):evC (yty.enm tabL6 [mEnd] 2000003) lw5s1p_h (cAt [1,0] (bdy Tryd.f4)) ⟨lw5sB_s g0 g1 t a o l cp j,lw5sB_m g0 g1 t a o l cp,True,[some (.bool false)]⟩=some (.normal,⟨lw5s1p_b g0 g1 t a o l cp j,[((wA .u32 64 kL2),g0),((wA .u64 80 kL5),g1),(a,t)],(((True∧True)∧True)∧(True∧(decide (4096<((l:Nat):Int)))=false)),[]⟩):=by kernel_rfl
theorem lw5s1 (g0 g1 t:Tq) (a:Array Value) (o l cp:Nat) (j:Nat→Value) (hb:bytesAt a o l) (hz:o+l≤a.size) (hcp:l≤cp) (hl:l≤4096)  {c0:Prop} {ch0:List (Option Value)}:Runs Tryd.prog (cAt [1,0] (bdy Tryd.f4)) ⟨lw5sB_s g0 g1 t a o l cp j,lw5sB_m g0 g1 t a o l cp,c0,ch0⟩ (fun e s=>e= .normal∧∃(j:Nat→Value) (c:Prop) (ch:List (Option Value)),s=⟨lw5sB_s g0 g1 t a o l cp j,lw5sB_m g0 g1 t a o l cp,c,ch⟩) 2000003:=by
  have h0:(decide (4096<((l:Nat):Int)))=false:=(decide_eq_false (by omega))
  refine(runs_ev mixed _ (lw5s1p_0 g0 g1 t a o l cp j) ⟨⟨⟨trivial,trivial⟩,trivial⟩,⟨trivial,h0⟩⟩).mono ?_
  rintro e s ⟨rfl,hs⟩
  refine⟨rfl,fun q=>s.tm.getD q undef,s.c,s.ch,?_⟩
  subst hs
  kernel_rfl
abbrev lw5sC_s (g0 g1 t:Tq) (a:Array Value) (o l cp:Nat) (c3:Nat) (j:Nat→Value):List Value:=([.slice (some ⟨2,o,none⟩) l cp,j 1,j 2,.slice (some ⟨3,0,none⟩) l c3] ++ (J j 4 35))
abbrev lw5sC_m (g0 g1 t:Tq) (a:Array Value) (o l cp:Nat) (c3:Nat):List Mb:= [((wA .u32 64 kL2),g0),((wA .u64 80 kL5),g1),(a,t),((wA .u8 c3 ((bL a o l) ++ [77])),(5,(0,0)))]
def lw5s2p_m (g0 g1 t:Tq) (a:Array Value) (o l cp:Nat) (j:Nat→Value):List Value:=([.slice (some ⟨2,o,none⟩) l cp,j 1,.bool false] ++ (J j 3 6 ++ ([.slice (some ⟨2,o,none⟩) l cp] ++ (J j 10 29))))
def lw5s2p_b (g0 g1 t:Tq) (a:Array Value) (o l cp:Nat) (j:Nat→Value) (k1:Nat):List Value:=([.slice (some ⟨2,o,none⟩) l cp,j 1,.bool false,.slice (some ⟨3,0,none⟩) l k1] ++ (J j 4 5 ++ ([.slice (some ⟨2,o,none⟩) l cp,.slice (some ⟨3,0,none⟩) l k1] ++ (J j 11 28))))
theorem lw5s2p_1 (g0 g1 t:Tq) (a:Array Value) (o l cp:Nat) (j:Nat→Value):evL (yty.enm tabL6 [mEnd] 2000003) (oT (cAt [1,1,0] (bdy Tryd.f4))) ((oT (cAt [1,1,0] (bdy Tryd.f4))).toList.take 1) ⟨lw5sB_s g0 g1 t a o l cp j,lw5sB_m g0 g1 t a o l cp,True,[]⟩=some ⟨lw5s2p_m g0 g1 t a o l cp j,[((wA .u32 64 kL2),g0),((wA .u64 80 kL5),g1),(a,t)],(True∧True),[]⟩:=by kernel_rfl
theorem lw5s2p_2 (g0 g1 t:Tq) (a:Array Value) (o l cp:Nat) (j:Nat→Value) (k1:Nat):evL (yty.enm tabL6 [mEnd] 2000003) (oT (cAt [1,1,0] (bdy Tryd.f4))) ((oT (cAt [1,1,0] (bdy Tryd.f4))).toList.drop 2) ⟨putS (lw5s2p_m g0 g1 t a o l cp j) (some 10) (.slice (some ⟨3,0,none⟩) l k1),[((wA .u32 64 kL2),g0),((wA .u64 80 kL5),g1),(a,t)] ++ [(wA .u8 k1 ((bL a o l) ++ [77]),5,(0,0))],True,[]⟩=some ⟨lw5s2p_b g0 g1 t a o l cp j k1,[((wA .u32 64 kL2),g0),((wA .u64 80 kL5),g1),(a,t),((wA .u8 k1 ((bL a o l) ++ [77])),(5,(0,0)))],(True∧True),[]⟩:=by kernel_rfl
theorem lw5s2p_r (g0 g1 t:Tq) (a:Array Value) (o l cp:Nat) (j:Nat→Value)  (hb:bytesAt a o l) (hz:o+l≤a.size) (hcp:l≤cp) (hl:l≤4096) (hM:MakesA Tryd.prog 10 [((wA .u32 64 kL2),g0),((wA .u64 80 kL5),g1),(a,t)] [.slice (some ⟨2,o,none⟩) l cp] .u8 l ((bL a o l) ++ [77]) 5 2) {c0:Prop} {ch0:List (Option Value)}:Runs Tryd.prog (cAt [1,1,0] (bdy Tryd.f4)) ⟨lw5sB_s g0 g1 t a o l cp j,lw5sB_m g0 g1 t a o l cp,c0,ch0⟩ (fun e s=>e= .normal∧∃ k1 c ch,(((bL a o l) ++ [77])).length≤k1∧s=⟨lw5s2p_b g0 g1 t a o l cp j k1,[((wA .u32 64 kL2),g0),((wA .u64 80 kL5),g1),(a,t),((wA .u8 k1 ((bL a o l) ++ [77])),(5,(0,0)))],c,ch⟩) 2000003:=
  (runs_call (E:=yty.enm tabL6 [mEnd] 2000003) (c:=(cAt [1,1,0] (bdy Tryd.f4))) (f:=10) (xs:= [.tmp 9]) (d:=some 10) (by kernel_rfl) 1 (lw5s2p_1 g0 g1 t a o l cp j) ⟨trivial,trivial⟩ (by kernel_rfl) (call_of Tryd.func10 (by kernel_rfl) (by kernel_rfl)) rfl hM rfl (of_decide_eq_true (by kernel_rfl)) _ (lw5s2p_2 g0 g1 t a o l cp j) (fun k1 e2=>⟨trivial,trivial⟩)).mono (fun e s ⟨h1,k1,h3,h4⟩=>⟨h1,k1,_,_,h3,h4⟩)
theorem lw5s2 (g0 g1 t:Tq) (a:Array Value) (o l cp:Nat) (j:Nat→Value) (hb:bytesAt a o l) (hz:o+l≤a.size) (hcp:l≤cp) (hl:l≤4096)  {c0:Prop} {ch0:List (Option Value)}:Runs Tryd.prog (cAt [1,1,0] (bdy Tryd.f4)) ⟨lw5sB_s g0 g1 t a o l cp j,lw5sB_m g0 g1 t a o l cp,c0,ch0⟩ (fun e s=>e= .normal∧∃(k1:Nat) (j:Nat→Value) (c:Prop) (ch:List (Option Value)),(l+1≤k1)∧s=⟨lw5sC_s g0 g1 t a o l cp k1 j,lw5sC_m g0 g1 t a o l cp k1,c,ch⟩) 2000003:=by
  refine(lw5s2p_r g0 g1 t a o l cp j hb hz hcp hl   (le6_c (src_b (i:=2) rfl hb hz) (bL_len a o l) (by omega))).mono ?_
  rintro e s ⟨rfl,k1,c,ch,hk1,hs⟩
  refine⟨rfl,k1,fun q=>s.tm.getD q undef,c,ch,by simp only[List.length_append,bL_len,List.length_cons,List.length_nil] at hk1;omega,?_⟩
  subst hs
  kernel_rfl
abbrev lw5sD_s (g0 g1 t:Tq) (a:Array Value) (o l cp:Nat) (c3:Nat) (S:List Int) (j:Nat→Value):List Value:=([.slice (some ⟨2,o,none⟩) l cp,j 1,j 2,.slice (some ⟨3,0,none⟩) l c3,.pointer (some ⟨4,0,none⟩)] ++ (J j 5 34))
abbrev lw5sD_m (g0 g1 t:Tq) (a:Array Value) (o l cp:Nat) (c3:Nat) (S:List Int):List Mb:= [((wA .u32 64 kL2),g0),((wA .u64 80 kL5),g1),(a,t),((wA .u8 c3 ((bL a o l) ++ [77])),(5,(0,0))),((wA .u8 64 S),(28,(0,0)))]
def lw5s3p_h (i:Nat):Hn:=if i=5 then⟨27,[],[],[],[]⟩ else⟨0,[],[],[],[]⟩
def lw5s3p_b (g0 g1 t:Tq) (a:Array Value) (o l cp:Nat) (c3:Nat) (j:Nat→Value):List Value:=([.slice (some ⟨2,o,none⟩) l cp,j 1,j 2,.slice (some ⟨3,0,none⟩) l c3,.pointer (some ⟨4,0,none⟩)] ++ (J j 5 6 ++ ([.slice (some ⟨3,0,none⟩) l c3,.agg (wA .u8 64 (sum5 (wA .u8 c3 ((bL a o l) ++ [77])) 0 l))] ++ (J j 13 26))))
theorem lw5s3p_0 (g0 g1 t:Tq) (a:Array Value) (o l cp:Nat) (c3:Nat) (j:Nat→Value):evC (yty.enm tabL6 [mEnd] 2000003) lw5s3p_h (cAt [1,1,1,0] (bdy Tryd.f4)) ⟨lw5sC_s g0 g1 t a o l cp c3 j,lw5sC_m g0 g1 t a o l cp c3,True,[]⟩=some (.normal,⟨lw5s3p_b g0 g1 t a o l cp c3 j,[((wA .u32 64 kL2),g0),((wA .u64 80 kL5),g1),(a,t),((wA .u8 c3 ((bL a o l) ++ [77])),(5,(0,0))),((wA .u8 64 (sum5 (wA .u8 c3 ((bL a o l) ++ [77])) 0 l)),(28,(0,0)))],(((True∧True)∧((wA .u32 64 kL2)=wA .u32 64 kL2∧(wA .u64 80 kL5)=wA .u64 80 kL5∧bytesAt (wA .u8 c3 ((bL a o l) ++ [77])) 0 l∧0+l≤(wA .u8 c3 ((bL a o l) ++ [77])).size∧l≤c3∧l<1152921504606846976))∧((wA .u8 64 (sum5 (wA .u8 c3 ((bL a o l) ++ [77])) 0 l)).all (fun v=>v.oneCell')=true)),[]⟩):=by kernel_rfl
theorem lw5s3 (g0 g1 t:Tq) (a:Array Value) (o l cp:Nat) (c3:Nat) (j:Nat→Value) (hb:bytesAt a o l) (hz:o+l≤a.size) (hcp:l≤cp) (hl:l≤4096) (hc3:l+1≤c3)  {c0:Prop} {ch0:List (Option Value)}:Runs Tryd.prog (cAt [1,1,1,0] (bdy Tryd.f4)) ⟨lw5sC_s g0 g1 t a o l cp c3 j,lw5sC_m g0 g1 t a o l cp c3,c0,ch0⟩ (fun e s=>e= .normal∧∃(j:Nat→Value) (c:Prop) (ch:List (Option Value)),((sum5 (wA .u8 c3 ((bL a o l) ++ [77])) 0 l)=sh5 (bL a o l))∧s=⟨lw5sD_s g0 g1 t a o l cp c3 (sum5 (wA .u8 c3 ((bL a o l) ++ [77])) 0 l) j,lw5sD_m g0 g1 t a o l cp c3 (sum5 (wA .u8 c3 ((bL a o l) ++ [77])) 0 l),c,ch⟩) 2000003:=by
  refine(runs_ev mixed _ (lw5s3p_0 g0 g1 t a o l cp c3 j) ⟨⟨⟨trivial,trivial⟩,⟨rfl,rfl,(lentb hb hc3),by rw[wA_size];omega,by omega,by omega⟩⟩,(wA_one _ _ _)⟩).mono ?_
  rintro e s ⟨rfl,hs⟩
  refine⟨rfl,fun q=>s.tm.getD q undef,s.c,s.ch,(sum5_sh (lentb hb hc3) (by omega)).trans (congrArg sh5 (lent_bL hb hc3)),?_⟩
  subst hs
  kernel_rfl
abbrev lw5sE_s (g0 g1 t:Tq) (a:Array Value) (o l cp:Nat) (c3:Nat) (S:List Int) (j:Nat→Value):List Value:=([j 0,j 1,.bool true] ++ (J j 3 36))
abbrev lw5sE_m (g0 g1 t:Tq) (a:Array Value) (o l cp:Nat) (c3:Nat) (S:List Int):List Mb:= [((wA .u32 64 kL2),g0),((wA .u64 80 kL5),g1),(a,t),((wA .u8 c3 ((bL a o l) ++ [77])),(5,(0,0))),((wA .u8 64 S),(28,(0,0)))]
def lw5s4p_h (i:Nat):Hn:=if i=5 then⟨27,[],[],[],[]⟩ else⟨0,[],[],[],[]⟩
def lw5s4p_b (g0 g1 t:Tq) (a:Array Value) (o l cp:Nat) (c3:Nat) (S:List Int) (j:Nat→Value):List Value:=([.slice (some ⟨2,o,none⟩) l cp,j 1,.bool true,.slice (some ⟨3,0,none⟩) l c3,.pointer (some ⟨4,0,none⟩)] ++ (J j 5 8 ++ ([.agg (wA .u8 64 S),.slice (some ⟨2,o,none⟩) l cp,.agg (wA .u8 64 (sh5 (bL a o l))),.bool true,.bool true,.slice (some ⟨3,0,none⟩) l c3,.string (bstr ((wA .u8 c3 ((bL a o l) ++ [77])).extract 0 (0+l))),.slice (some ⟨2,o,none⟩) l cp,.string (bstr (a.extract o (o+l))),.bool true,.bool true,.bool true,.slice (some ⟨3,0,none⟩) l c3,.slice (some ⟨2,o,none⟩) l cp,.int .i64 ((l:Nat):Int),.int .i64 ((l+1:Nat):Int),.slice (some ⟨3,(if c3=0 then 0 else 0+0*1),none⟩) (l+1) c3,.slice (some ⟨2,o,none⟩) l cp,.int .i64 ((l:Nat):Int),.pointer (some ⟨3,(if c3=0 then 0 else 0+0*1)+Int.toNat ((l:Nat):Int)*1,none⟩),.int .u8 77,.bool true,.bool true,.bool true,.bool true,.bool true])))
theorem lw5s4p_0 (g0 g1 t:Tq) (a:Array Value) (o l cp:Nat) (c3:Nat) (S:List Int) (j:Nat→Value):evC (yty.enm tabL6 [mEnd] 2000003) lw5s4p_h (cAt [1,1,1,1] (bdy Tryd.f4)) ⟨lw5sD_s g0 g1 t a o l cp c3 S j,lw5sD_m g0 g1 t a o l cp c3 S,True,[some (.bool true),some (.bool true),some (.int .i64 ((l+1:Nat):Int)),some (.int .u8 77),some (.bool true)]⟩=some (.ret,⟨lw5s4p_b g0 g1 t a o l cp c3 S j,[((wA .u32 64 kL2),g0),((wA .u64 80 kL5),g1),(a,t),((wA .u8 c3 ((bL a o l) ++ [77])),(5,(0,0))),((wA .u8 64 S),(28,(0,0)))],(((((((((((((((((((((((((((True∧True)∧True)∧(SrcOk .u8 [((wA .u32 64 kL2),g0),((wA .u64 80 kL5),g1),(a,t),((wA .u8 c3 ((bL a o l) ++ [77])),(5,(0,0))),((wA .u8 64 S),(28,(0,0)))] (.slice (some ⟨2,o,none⟩) l cp) (bL a o l)∧(∃ x,[((wA .u32 64 kL2),g0),((wA .u64 80 kL5),g1),(a,t),((wA .u8 c3 ((bL a o l) ++ [77])),(5,(0,0))),((wA .u8 64 S),(28,(0,0)))][0]? =some x)∧(bL a o l).length=l∧l≤1000000000))∧((isBL 64 (wA .u8 64 S)∧isBL 64 (wA .u8 64 (sh5 (bL a o l))))∧(intsOf (wA .u8 64 S) == intsOf (wA .u8 64 (sh5 (bL a o l))))=true))∧True)∧True)∧(((wA .u8 c3 ((bL a o l) ++ [77])).extract 0 (0+l)).all isB8=true∧0+l≤(wA .u8 c3 ((bL a o l) ++ [77])).size))∧True)∧((a.extract o (o+l)).all isB8=true∧o+l≤a.size))∧(True∧(((bstr ((wA .u8 c3 ((bL a o l) ++ [77])).extract 0 (0+l)))).toList == ((bstr (a.extract o (o+l)))).toList)=true))∧True)∧True)∧True)∧True)∧True)∧(True∧(IntKind.i64.wrap (((l:Nat):Int)+1))=((l+1:Nat):Int)))∧((True∧(0≤((l+1:Nat):Int)))∧0≤(l+1)∧(l+1)≤c3))∧True)∧True)∧((0:Int)≤((l:Nat):Int)∧(((l:Nat):Int):Int)<(((l+1):Nat):Int)))∧(((wA .u8 c3 ((bL a o l) ++ [77]))[((if c3=0 then 0 else 0+0*1)+Int.toNat ((l:Nat):Int)*1)]? =some (.int .u8 77))∧(77:Int)=77))∧(True∧true=true))∧True)∧True)∧((wA .u32 64 kL2)=wA .u32 64 kL2∧(wA .u64 80 kL5)=wA .u64 80 kL5))∧True)∧True),[]⟩):=by kernel_rfl
theorem lw5s4 (g0 g1 t:Tq) (a:Array Value) (o l cp:Nat) (c3:Nat) (S:List Int) (j:Nat→Value) (hb:bytesAt a o l) (hz:o+l≤a.size) (hcp:l≤cp) (hl:l≤4096) (hc3:l+1≤c3) (hS:S=sh5 (bL a o l))  {c0:Prop} {ch0:List (Option Value)}:Runs Tryd.prog (cAt [1,1,1,1] (bdy Tryd.f4)) ⟨lw5sD_s g0 g1 t a o l cp c3 S j,lw5sD_m g0 g1 t a o l cp c3 S,c0,ch0⟩ (fun e s=>e= .ret∧∃(j:Nat→Value) (c:Prop) (ch:List (Option Value)),s=⟨lw5sE_s g0 g1 t a o l cp c3 S j,lw5sE_m g0 g1 t a o l cp c3 S,c,ch⟩) 2000003:=by
  have h0:(intsOf (wA .u8 64 S) == intsOf (wA .u8 64 (sh5 (bL a o l))))=true:=(by rw[hS];exact beq_self_eq_true _)
  have h1:(((bstr ((wA .u8 c3 ((bL a o l) ++ [77])).extract 0 (0+l)))).toList == ((bstr (a.extract o (o+l)))).toList)=true:=(by rw[ext_bL (lentb hb hc3) (by rw[wA_size];omega),(lent_bL hb hc3),ext_bL hb hz];exact beq_self_eq_true _)
  have h2:true=true:=(by first|rfl|assumption)
  refine(runs_ev mixed _ (lw5s4p_0 g0 g1 t a o l cp c3 S j) ⟨⟨⟨⟨⟨⟨⟨⟨⟨⟨⟨⟨⟨⟨⟨⟨⟨⟨⟨⟨⟨⟨⟨⟨⟨⟨⟨trivial,trivial⟩,trivial⟩,⟨src_b (i:=2) rfl hb hz,⟨_,rfl⟩,bL_len a o l,by omega⟩⟩,⟨⟨⟨S,by rw[hS];exact sh5_len _,wA_iv (by rw[hS];exact sh5_len _)⟩,⟨_,sh5_len _,wA_iv (sh5_len _)⟩⟩,h0⟩⟩,trivial⟩,trivial⟩,⟨b8_ext (lentb hb hc3) (by rw[wA_size];omega),by rw[wA_size];omega⟩⟩,trivial⟩,⟨b8_ext hb hz,hz⟩⟩,⟨trivial,h1⟩⟩,trivial⟩,trivial⟩,trivial⟩,trivial⟩,trivial⟩,⟨trivial,(by rw[IntKind.wrap_i64];omega)⟩⟩,(by refine⟨⟨?_,?_⟩,?_,?_⟩<;>first|trivial|omega)⟩,trivial⟩,trivial⟩,(by(try simp only[Int.toNat_natCast,wA_size]);omega)⟩,⟨(at77 (bL_len a o l) hc3 (by split<;>omega)),rfl⟩⟩,⟨trivial,h2⟩⟩,trivial⟩,trivial⟩,⟨rfl,rfl⟩⟩,trivial⟩,trivial⟩).mono ?_
  rintro e s ⟨rfl,hs⟩
  refine⟨rfl,fun q=>s.tm.getD q undef,s.c,s.ch,?_⟩
  subst hs
  kernel_rfl
theorem lw5su (g0 g1 t:Tq) (a:Array Value) (o l cp:Nat) (j:Nat→Value) (hb:bytesAt a o l) (hz:o+l≤a.size) (hcp:l≤cp) (hl:l≤4096)  {c0:Prop} {ch0:List (Option Value)}:Runs Tryd.prog (cAt [] (bdy Tryd.f4)) ⟨lw5sA_s g0 g1 t a o l cp j,lw5sA_m g0 g1 t a o l cp,c0,ch0⟩ (fun e s=>e= .ret∧∃(k12:Nat) (j:Nat→Value) (c:Prop) (ch:List (Option Value)),(l+1≤k12)∧((sum5 (wA .u8 k12 ((bL a o l) ++ [77])) 0 l)=sh5 (bL a o l))∧s=⟨lw5sE_s g0 g1 t a o l cp k12 (sum5 (wA .u8 k12 ((bL a o l) ++ [77])) 0 l) j,lw5sE_m g0 g1 t a o l cp k12 (sum5 (wA .u8 k12 ((bL a o l) ++ [77])) 0 l),c,ch⟩) 2000003:=by
  rw[show(cAt [] (bdy Tryd.f4))=(.seq (cAt [0] (bdy Tryd.f4)) (.seq (cAt [1,0] (bdy Tryd.f4)) (.seq (cAt [1,1,0] (bdy Tryd.f4)) (.seq (cAt [1,1,1,0] (bdy Tryd.f4)) (cAt [1,1,1,1] (bdy Tryd.f4)))))) from by kernel_rfl]
  refine runs_seq (lw5s0 g0 g1 t a o l cp j hb hz hcp hl ) (fun s hh=> ?_) (fun e s hne hh=>absurd hh.1 hne)
  obtain⟨_,j,c,ch,rfl⟩:=hh
  refine runs_seq (lw5s1 g0 g1 t a o l cp j hb hz hcp hl ) (fun s hh=> ?_) (fun e s hne hh=>absurd hh.1 hne)
  obtain⟨_,j,c,ch,rfl⟩:=hh
  refine runs_seq (lw5s2 g0 g1 t a o l cp j hb hz hcp hl ) (fun s hh=> ?_) (fun e s hne hh=>absurd hh.1 hne)
  obtain⟨_,k12,j,c,ch,f2_4,rfl⟩:=hh
  refine runs_seq (lw5s3 g0 g1 t a o l cp k12 j hb hz hcp hl f2_4 ) (fun s hh=> ?_) (fun e s hne hh=>absurd hh.1 hne)
  obtain⟨_,j,c,ch,f3_5,rfl⟩:=hh
  refine(lw5s4 g0 g1 t a o l cp k12 (sum5 (wA .u8 k12 ((bL a o l) ++ [77])) 0 l) j hb hz hcp hl f2_4 f3_5 ).mono ?_
  rintro e s ⟨rfl,j,c,ch,rfl⟩
  exact⟨rfl,k12,j,c,ch,f2_4,f3_5,rfl⟩
abbrev lw5sF_s (g0 g1 t:Tq) (a:Array Value) (o l cp:Nat) (j:Nat→Value):List Value:=([.slice (some ⟨2,o,none⟩) l cp] ++ (JU 38))
abbrev lw5sF_m (g0 g1 t:Tq) (a:Array Value) (o l cp:Nat):List Mb:= [((wA .u32 64 kL2),g0),((wA .u64 80 kL5),g1),(a,t)]
abbrev lw5sG_s (g0 g1 t:Tq) (a:Array Value) (o l cp:Nat) (j:Nat→Value):List Value:=([.slice (some ⟨2,o,none⟩) l cp,j 1,.bool false] ++ (J j 3 36))
abbrev lw5sG_m (g0 g1 t:Tq) (a:Array Value) (o l cp:Nat):List Mb:= [((wA .u32 64 kL2),g0),((wA .u64 80 kL5),g1),(a,t)]
abbrev lw5sH_s (g0 g1 t:Tq) (a:Array Value) (o l cp:Nat) (j:Nat→Value):List Value:=([j 0,j 1,.bool true] ++ (J j 3 36))
abbrev lw5sH_m (g0 g1 t:Tq) (a:Array Value) (o l cp:Nat):List Mb:= [((wA .u32 64 kL2),g0),((wA .u64 80 kL5),g1),(a,t)]
def lw5s5p_h (i:Nat):Hn:=if i=5 then⟨27,[],[],[],[]⟩ else⟨0,[],[],[],[]⟩
def lw5s5p_b (g0 g1 t:Tq) (a:Array Value) (o l cp:Nat) (j:Nat→Value):List Value:=([.slice (some ⟨2,o,none⟩) l cp,undef,.bool false] ++ (JU 36))
theorem lw5s5p_0 (g0 g1 t:Tq) (a:Array Value) (o l cp:Nat) (j:Nat→Value):evC (yty.enm tabL6 [mEnd] 2000003) lw5s5p_h (cAt [0] (bdy Tryd.f4)) ⟨lw5sF_s g0 g1 t a o l cp j,lw5sF_m g0 g1 t a o l cp,True,[]⟩=some (.normal,⟨lw5s5p_b g0 g1 t a o l cp j,[((wA .u32 64 kL2),g0),((wA .u64 80 kL5),g1),(a,t)],(True∧True),[]⟩):=by kernel_rfl
theorem lw5s5 (g0 g1 t:Tq) (a:Array Value) (o l cp:Nat) (j:Nat→Value) (hl:4096<l)  {c0:Prop} {ch0:List (Option Value)}:Runs Tryd.prog (cAt [0] (bdy Tryd.f4)) ⟨lw5sF_s g0 g1 t a o l cp j,lw5sF_m g0 g1 t a o l cp,c0,ch0⟩ (fun e s=>e= .normal∧∃(j:Nat→Value) (c:Prop) (ch:List (Option Value)),s=⟨lw5sG_s g0 g1 t a o l cp j,lw5sG_m g0 g1 t a o l cp,c,ch⟩) 2000003:=by
  refine(runs_ev mixed _ (lw5s5p_0 g0 g1 t a o l cp j) ⟨trivial,trivial⟩).mono ?_
  rintro e s ⟨rfl,hs⟩
  refine⟨rfl,fun q=>s.tm.getD q undef,s.c,s.ch,?_⟩
  subst hs
  kernel_rfl
def lw5s6p_h (i:Nat):Hn:=if i=5 then⟨27,[],[],[],[]⟩ else⟨0,[],[],[],[]⟩
def lw5s6p_b (g0 g1 t:Tq) (a:Array Value) (o l cp:Nat) (j:Nat→Value):List Value:=([.slice (some ⟨2,o,none⟩) l cp,j 1,.bool true,j 3,j 4,.slice (some ⟨2,o,none⟩) l cp,.int .i64 ((l:Nat):Int),.bool true,.bool true] ++ (J j 9 30))
theorem lw5s6p_0 (g0 g1 t:Tq) (a:Array Value) (o l cp:Nat) (j:Nat→Value):evC (yty.enm tabL6 [mEnd] 2000003) lw5s6p_h (cAt [1,0] (bdy Tryd.f4)) ⟨lw5sG_s g0 g1 t a o l cp j,lw5sG_m g0 g1 t a o l cp,True,[some (.bool true)]⟩=some (.ret,⟨lw5s6p_b g0 g1 t a o l cp j,[((wA .u32 64 kL2),g0),((wA .u64 80 kL5),g1),(a,t)],(((((True∧True)∧True)∧(True∧(decide (4096<((l:Nat):Int)))=true))∧((wA .u32 64 kL2)=wA .u32 64 kL2∧(wA .u64 80 kL5)=wA .u64 80 kL5))∧True),[]⟩):=by kernel_rfl
theorem lw5s6 (g0 g1 t:Tq) (a:Array Value) (o l cp:Nat) (j:Nat→Value) (hl:4096<l)  {c0:Prop} {ch0:List (Option Value)}:Runs Tryd.prog (cAt [1,0] (bdy Tryd.f4)) ⟨lw5sG_s g0 g1 t a o l cp j,lw5sG_m g0 g1 t a o l cp,c0,ch0⟩ (fun e s=>e= .ret∧∃(j:Nat→Value) (c:Prop) (ch:List (Option Value)),s=⟨lw5sH_s g0 g1 t a o l cp j,lw5sH_m g0 g1 t a o l cp,c,ch⟩) 2000003:=by
  have h0:(decide (4096<((l:Nat):Int)))=true:=(decide_eq_true (by omega))
  refine(runs_ev mixed _ (lw5s6p_0 g0 g1 t a o l cp j) ⟨⟨⟨⟨⟨trivial,trivial⟩,trivial⟩,⟨trivial,h0⟩⟩,⟨rfl,rfl⟩⟩,trivial⟩).mono ?_
  rintro e s ⟨rfl,hs⟩
  refine⟨rfl,fun q=>s.tm.getD q undef,s.c,s.ch,?_⟩
  subst hs
  kernel_rfl
theorem lw5sv (g0 g1 t:Tq) (a:Array Value) (o l cp:Nat) (j:Nat→Value) (hl:4096<l)  {c0:Prop} {ch0:List (Option Value)}:Runs Tryd.prog (cAt [] (bdy Tryd.f4)) ⟨lw5sF_s g0 g1 t a o l cp j,lw5sF_m g0 g1 t a o l cp,c0,ch0⟩ (fun e s=>e= .ret∧∃(j:Nat→Value) (c:Prop) (ch:List (Option Value)),s=⟨lw5sH_s g0 g1 t a o l cp j,lw5sH_m g0 g1 t a o l cp,c,ch⟩) 2000003:=by
  rw[show(cAt [] (bdy Tryd.f4))=(.seq (cAt [0] (bdy Tryd.f4)) (.seq (cAt [1,0] (bdy Tryd.f4)) (cAt [1,1] (bdy Tryd.f4)))) from by kernel_rfl]
  refine runs_seq (lw5s5 g0 g1 t a o l cp j hl ) (fun s hh=> ?_) (fun e s hne hh=>absurd hh.1 hne)
  obtain⟨_,j,c,ch,rfl⟩:=hh
  refine runs_seq (lw5s6 g0 g1 t a o l cp j hl ) (fun s hh=>absurd hh.1 (by simp)) (fun e s hne hh=> ?_)
  obtain⟨rfl,j,c,ch,rfl⟩:=hh
  exact⟨rfl,j,c,ch,rfl⟩
abbrev lw5nA_s (g0 g1:Tq) (j:Nat→Value):List Value:=([.slice none 0 0] ++ (JU 38))
abbrev lw5nA_m (g0 g1:Tq):List Mb:= [((wA .u32 64 kL2),g0),((wA .u64 80 kL5),g1)]
abbrev lw5nB_s (g0 g1:Tq) (j:Nat→Value):List Value:=([.slice none 0 0,j 1,.bool false] ++ (J j 3 36))
abbrev lw5nB_m (g0 g1:Tq):List Mb:= [((wA .u32 64 kL2),g0),((wA .u64 80 kL5),g1)]
def lw5n0p_h (i:Nat):Hn:=if i=5 then⟨27,[],[],[],[]⟩ else⟨0,[],[],[],[]⟩
def lw5n0p_b (g0 g1:Tq) (j:Nat→Value):List Value:=([.slice none 0 0,undef,.bool false] ++ (JU 36))
theorem lw5n0p_0 (g0 g1:Tq) (j:Nat→Value):evC (yty.enm tabL6 [mEnd] 2000002) lw5n0p_h (cAt [0] (bdy Tryd.f4)) ⟨lw5nA_s g0 g1 j,lw5nA_m g0 g1,True,[]⟩=some (.normal,⟨lw5n0p_b g0 g1 j,[((wA .u32 64 kL2),g0),((wA .u64 80 kL5),g1)],(True∧True),[]⟩):=by kernel_rfl
theorem lw5n0 (g0 g1:Tq) (j:Nat→Value)   {c0:Prop} {ch0:List (Option Value)}:Runs Tryd.prog (cAt [0] (bdy Tryd.f4)) ⟨lw5nA_s g0 g1 j,lw5nA_m g0 g1,c0,ch0⟩ (fun e s=>e= .normal∧∃(j:Nat→Value) (c:Prop) (ch:List (Option Value)),s=⟨lw5nB_s g0 g1 j,lw5nB_m g0 g1,c,ch⟩) 2000002:=by
  refine(runs_ev mixed _ (lw5n0p_0 g0 g1 j) ⟨trivial,trivial⟩).mono ?_
  rintro e s ⟨rfl,hs⟩
  refine⟨rfl,fun q=>s.tm.getD q undef,s.c,s.ch,?_⟩
  subst hs
  kernel_rfl
def lw5n1p_h (i:Nat):Hn:=if i=5 then⟨27,[],[],[],[]⟩ else⟨0,[],[],[],[]⟩
def lw5n1p_b (g0 g1:Tq) (j:Nat→Value):List Value:=([.slice none 0 0,j 1,.bool false,j 3,j 4,.slice none 0 0,.int .i64 0,.bool false] ++ (J j 8 31))
theorem lw5n1p_0 (g0 g1:Tq) (j:Nat→Value):evC (yty.enm tabL6 [mEnd] 2000002) lw5n1p_h (cAt [1,0] (bdy Tryd.f4)) ⟨lw5nB_s g0 g1 j,lw5nB_m g0 g1,True,[]⟩=some (.normal,⟨lw5n1p_b g0 g1 j,[((wA .u32 64 kL2),g0),((wA .u64 80 kL5),g1)],(((True∧True)∧True)∧True),[]⟩):=by kernel_rfl
theorem lw5n1 (g0 g1:Tq) (j:Nat→Value)   {c0:Prop} {ch0:List (Option Value)}:Runs Tryd.prog (cAt [1,0] (bdy Tryd.f4)) ⟨lw5nB_s g0 g1 j,lw5nB_m g0 g1,c0,ch0⟩ (fun e s=>e= .normal∧∃(j:Nat→Value) (c:Prop) (ch:List (Option Value)),s=⟨lw5nB_s g0 g1 j,lw5nB_m g0 g1,c,ch⟩) 2000002:=by
  refine(runs_ev mixed _ (lw5n1p_0 g0 g1 j) ⟨⟨⟨trivial,trivial⟩,trivial⟩,trivial⟩).mono ?_
  rintro e s ⟨rfl,hs⟩
  refine⟨rfl,fun q=>s.tm.getD q undef,s.c,s.ch,?_⟩
  subst hs
  kernel_rfl
abbrev lw5nC_s (g0 g1:Tq) (c3:Nat) (j:Nat→Value):List Value:=([.slice none 0 0,j 1,j 2,.slice (some ⟨2,0,none⟩) 0 c3] ++ (J j 4 35))
abbrev lw5nC_m (g0 g1:Tq) (c3:Nat):List Mb:= [((wA .u32 64 kL2),g0),((wA .u64 80 kL5),g1),((wA .u8 c3 (([]:List Int) ++ [77])),(5,(0,0)))]
def lw5n2p_m (g0 g1:Tq) (j:Nat→Value):List Value:=([.slice none 0 0,j 1,.bool false] ++ (J j 3 6 ++ ([.slice none 0 0] ++ (J j 10 29))))
def lw5n2p_b (g0 g1:Tq) (j:Nat→Value) (k1:Nat):List Value:=([.slice none 0 0,j 1,.bool false,.slice (some ⟨2,0,none⟩) 0 k1] ++ (J j 4 5 ++ ([.slice none 0 0,.slice (some ⟨2,0,none⟩) 0 k1] ++ (J j 11 28))))
theorem lw5n2p_1 (g0 g1:Tq) (j:Nat→Value):evL (yty.enm tabL6 [mEnd] 2000002) (oT (cAt [1,1,0] (bdy Tryd.f4))) ((oT (cAt [1,1,0] (bdy Tryd.f4))).toList.take 1) ⟨lw5nB_s g0 g1 j,lw5nB_m g0 g1,True,[]⟩=some ⟨lw5n2p_m g0 g1 j,[((wA .u32 64 kL2),g0),((wA .u64 80 kL5),g1)],(True∧True),[]⟩:=by kernel_rfl
theorem lw5n2p_2 (g0 g1:Tq) (j:Nat→Value) (k1:Nat):evL (yty.enm tabL6 [mEnd] 2000002) (oT (cAt [1,1,0] (bdy Tryd.f4))) ((oT (cAt [1,1,0] (bdy Tryd.f4))).toList.drop 2) ⟨putS (lw5n2p_m g0 g1 j) (some 10) (.slice (some ⟨2,0,none⟩) 0 k1),[((wA .u32 64 kL2),g0),((wA .u64 80 kL5),g1)] ++ [(wA .u8 k1 (([]:List Int) ++ [77]),5,(0,0))],True,[]⟩=some ⟨lw5n2p_b g0 g1 j k1,[((wA .u32 64 kL2),g0),((wA .u64 80 kL5),g1),((wA .u8 k1 (([]:List Int) ++ [77])),(5,(0,0)))],(True∧True),[]⟩:=by kernel_rfl
theorem lw5n2p_r (g0 g1:Tq) (j:Nat→Value)  (hM:MakesA Tryd.prog 10 [((wA .u32 64 kL2),g0),((wA .u64 80 kL5),g1)] [.slice none 0 0] .u8 0 (([]:List Int) ++ [77]) 5 2) {c0:Prop} {ch0:List (Option Value)}:Runs Tryd.prog (cAt [1,1,0] (bdy Tryd.f4)) ⟨lw5nB_s g0 g1 j,lw5nB_m g0 g1,c0,ch0⟩ (fun e s=>e= .normal∧∃ k1 c ch,((([]:List Int) ++ [77])).length≤k1∧s=⟨lw5n2p_b g0 g1 j k1,[((wA .u32 64 kL2),g0),((wA .u64 80 kL5),g1),((wA .u8 k1 (([]:List Int) ++ [77])),(5,(0,0)))],c,ch⟩) 2000002:=
  (runs_call (E:=yty.enm tabL6 [mEnd] 2000002) (c:=(cAt [1,1,0] (bdy Tryd.f4))) (f:=10) (xs:= [.tmp 9]) (d:=some 10) (by kernel_rfl) 1 (lw5n2p_1 g0 g1 j) ⟨trivial,trivial⟩ (by kernel_rfl) (call_of Tryd.func10 (by kernel_rfl) (by kernel_rfl)) rfl hM rfl (of_decide_eq_true (by kernel_rfl)) _ (lw5n2p_2 g0 g1 j) (fun k1 e2=>⟨trivial,trivial⟩)).mono (fun e s ⟨h1,k1,h3,h4⟩=>⟨h1,k1,_,_,h3,h4⟩)
theorem lw5n2 (g0 g1:Tq) (j:Nat→Value)   {c0:Prop} {ch0:List (Option Value)}:Runs Tryd.prog (cAt [1,1,0] (bdy Tryd.f4)) ⟨lw5nB_s g0 g1 j,lw5nB_m g0 g1,c0,ch0⟩ (fun e s=>e= .normal∧∃(k1:Nat) (j:Nat→Value) (c:Prop) (ch:List (Option Value)),(0+1≤k1)∧s=⟨lw5nC_s g0 g1 k1 j,lw5nC_m g0 g1 k1,c,ch⟩) 2000002:=by
  refine(lw5n2p_r g0 g1 j    (le6_c (N:= []) src_nil rfl (by decide))).mono ?_
  rintro e s ⟨rfl,k1,c,ch,hk1,hs⟩
  refine⟨rfl,k1,fun q=>s.tm.getD q undef,c,ch,by simpa using hk1,?_⟩
  subst hs
  kernel_rfl
abbrev lw5nD_s (g0 g1:Tq) (c3:Nat) (S:List Int) (j:Nat→Value):List Value:=([.slice none 0 0,j 1,j 2,.slice (some ⟨2,0,none⟩) 0 c3,.pointer (some ⟨3,0,none⟩)] ++ (J j 5 34))
abbrev lw5nD_m (g0 g1:Tq) (c3:Nat) (S:List Int):List Mb:= [((wA .u32 64 kL2),g0),((wA .u64 80 kL5),g1),((wA .u8 c3 (([]:List Int) ++ [77])),(5,(0,0))),((wA .u8 64 S),(28,(0,0)))]
def lw5n3p_h (i:Nat):Hn:=if i=5 then⟨27,[],[],[],[]⟩ else⟨0,[],[],[],[]⟩
def lw5n3p_b (g0 g1:Tq) (c3:Nat) (j:Nat→Value):List Value:=([.slice none 0 0,j 1,j 2,.slice (some ⟨2,0,none⟩) 0 c3,.pointer (some ⟨3,0,none⟩)] ++ (J j 5 6 ++ ([.slice (some ⟨2,0,none⟩) 0 c3,.agg (wA .u8 64 (sum5 (wA .u8 c3 (([]:List Int) ++ [77])) 0 0))] ++ (J j 13 26))))
theorem lw5n3p_0 (g0 g1:Tq) (c3:Nat) (j:Nat→Value):evC (yty.enm tabL6 [mEnd] 2000002) lw5n3p_h (cAt [1,1,1,0] (bdy Tryd.f4)) ⟨lw5nC_s g0 g1 c3 j,lw5nC_m g0 g1 c3,True,[]⟩=some (.normal,⟨lw5n3p_b g0 g1 c3 j,[((wA .u32 64 kL2),g0),((wA .u64 80 kL5),g1),((wA .u8 c3 (([]:List Int) ++ [77])),(5,(0,0))),((wA .u8 64 (sum5 (wA .u8 c3 (([]:List Int) ++ [77])) 0 0)),(28,(0,0)))],(((True∧True)∧((wA .u32 64 kL2)=wA .u32 64 kL2∧(wA .u64 80 kL5)=wA .u64 80 kL5∧bytesAt (wA .u8 c3 (([]:List Int) ++ [77])) 0 0∧0+0≤(wA .u8 c3 (([]:List Int) ++ [77])).size∧0≤c3∧0<1152921504606846976))∧((wA .u8 64 (sum5 (wA .u8 c3 (([]:List Int) ++ [77])) 0 0)).all (fun v=>v.oneCell')=true)),[]⟩):=by kernel_rfl
theorem lw5n3 (g0 g1:Tq) (c3:Nat) (j:Nat→Value) (hc3:0+1≤c3)  {c0:Prop} {ch0:List (Option Value)}:Runs Tryd.prog (cAt [1,1,1,0] (bdy Tryd.f4)) ⟨lw5nC_s g0 g1 c3 j,lw5nC_m g0 g1 c3,c0,ch0⟩ (fun e s=>e= .normal∧∃(j:Nat→Value) (c:Prop) (ch:List (Option Value)),((sum5 (wA .u8 c3 (([]:List Int) ++ [77])) 0 0)=sh5 ([]:List Int))∧s=⟨lw5nD_s g0 g1 c3 (sum5 (wA .u8 c3 (([]:List Int) ++ [77])) 0 0) j,lw5nD_m g0 g1 c3 (sum5 (wA .u8 c3 (([]:List Int) ++ [77])) 0 0),c,ch⟩) 2000002:=by
  refine(runs_ev mixed _ (lw5n3p_0 g0 g1 c3 j) ⟨⟨⟨trivial,trivial⟩,⟨rfl,rfl,(lentb (a:= #[]) (o:=0) (l:=0) (fun j h=>by omega) hc3),by rw[wA_size];omega,by omega,by omega⟩⟩,(wA_one _ _ _)⟩).mono ?_
  rintro e s ⟨rfl,hs⟩
  refine⟨rfl,fun q=>s.tm.getD q undef,s.c,s.ch,(sum5_sh (lentb (a:= #[]) (o:=0) (l:=0) (fun j h=>by omega) hc3) (by omega)).trans (congrArg sh5 (lent_bL (a:= #[]) (o:=0) (l:=0) (fun j h=>by omega) hc3)),?_⟩
  subst hs
  kernel_rfl
abbrev lw5nE_s (g0 g1:Tq) (c3:Nat) (S:List Int) (j:Nat→Value):List Value:=([j 0,j 1,.bool true] ++ (J j 3 36))
abbrev lw5nE_m (g0 g1:Tq) (c3:Nat) (S:List Int):List Mb:= [((wA .u32 64 kL2),g0),((wA .u64 80 kL5),g1),((wA .u8 c3 (([]:List Int) ++ [77])),(5,(0,0))),((wA .u8 64 S),(28,(0,0)))]
def lw5n4p_h (i:Nat):Hn:=if i=5 then⟨27,[],[],[],[]⟩ else⟨0,[],[],[],[]⟩
def lw5n4p_b (g0 g1:Tq) (c3:Nat) (S:List Int) (j:Nat→Value):List Value:=([.slice none 0 0,j 1,.bool true,.slice (some ⟨2,0,none⟩) 0 c3,.pointer (some ⟨3,0,none⟩)] ++ (J j 5 8 ++ ([.agg (wA .u8 64 S),.slice none 0 0,.agg (wA .u8 64 (sh5 ([]:List Int))),.bool true,.bool true,.slice (some ⟨2,0,none⟩) 0 c3,.string (bstr ((wA .u8 c3 (([]:List Int) ++ [77])).extract 0 (0+0))),.slice none 0 0,.string (bstr #[]),.bool true,.bool true,.bool true,.slice (some ⟨2,0,none⟩) 0 c3,.slice none 0 0,.int .i64 0,.int .i64 1,.slice (some ⟨2,(if c3=0 then 0 else 0+0*1),none⟩) 1 c3,.slice none 0 0,.int .i64 0,.pointer (some ⟨2,(if c3=0 then 0 else 0+0*1)+0,none⟩),.int .u8 77,.bool true,.bool true,.bool true,.bool true,.bool true])))
theorem lw5n4p_0 (g0 g1:Tq) (c3:Nat) (S:List Int) (j:Nat→Value):evC (yty.enm tabL6 [mEnd] 2000002) lw5n4p_h (cAt [1,1,1,1] (bdy Tryd.f4)) ⟨lw5nD_s g0 g1 c3 S j,lw5nD_m g0 g1 c3 S,True,[some (.bool true),some (.bool true),none,some (.int .u8 77),some (.bool true)]⟩=some (.ret,⟨lw5n4p_b g0 g1 c3 S j,[((wA .u32 64 kL2),g0),((wA .u64 80 kL5),g1),((wA .u8 c3 (([]:List Int) ++ [77])),(5,(0,0))),((wA .u8 64 S),(28,(0,0)))],(((((((((((((((((((((((((((True∧True)∧True)∧(SrcOk .u8 [((wA .u32 64 kL2),g0),((wA .u64 80 kL5),g1),((wA .u8 c3 (([]:List Int) ++ [77])),(5,(0,0))),((wA .u8 64 S),(28,(0,0)))] (.slice none 0 0) ([]:List Int)∧(∃ x,[((wA .u32 64 kL2),g0),((wA .u64 80 kL5),g1),((wA .u8 c3 (([]:List Int) ++ [77])),(5,(0,0))),((wA .u8 64 S),(28,(0,0)))][0]? =some x)∧([]:List Int).length=0∧0≤1000000000))∧((isBL 64 (wA .u8 64 S)∧isBL 64 (wA .u8 64 (sh5 ([]:List Int))))∧(intsOf (wA .u8 64 S) == intsOf (wA .u8 64 (sh5 ([]:List Int))))=true))∧True)∧True)∧(((wA .u8 c3 (([]:List Int) ++ [77])).extract 0 (0+0)).all isB8=true∧0+0≤(wA .u8 c3 (([]:List Int) ++ [77])).size))∧True)∧True)∧(True∧(((bstr ((wA .u8 c3 (([]:List Int) ++ [77])).extract 0 (0+0)))).toList == ((bstr #[])).toList)=true))∧True)∧True)∧True)∧True)∧True)∧True)∧((True∧((0:Int)≤1))∧0≤1∧1≤c3))∧True)∧True)∧((0:Int)≤0∧(0:Int)<((1:Nat):Int)))∧(((wA .u8 c3 (([]:List Int) ++ [77]))[((if c3=0 then 0 else 0+0*1)+0)]? =some (.int .u8 77))∧(77:Int)=77))∧(True∧true=true))∧True)∧True)∧((wA .u32 64 kL2)=wA .u32 64 kL2∧(wA .u64 80 kL5)=wA .u64 80 kL5))∧True)∧True),[]⟩):=by kernel_rfl
theorem lw5n4 (g0 g1:Tq) (c3:Nat) (S:List Int) (j:Nat→Value) (hc3:0+1≤c3) (hS:S=sh5 ([]:List Int))  {c0:Prop} {ch0:List (Option Value)}:Runs Tryd.prog (cAt [1,1,1,1] (bdy Tryd.f4)) ⟨lw5nD_s g0 g1 c3 S j,lw5nD_m g0 g1 c3 S,c0,ch0⟩ (fun e s=>e= .ret∧∃(j:Nat→Value) (c:Prop) (ch:List (Option Value)),s=⟨lw5nE_s g0 g1 c3 S j,lw5nE_m g0 g1 c3 S,c,ch⟩) 2000002:=by
  have h0:(intsOf (wA .u8 64 S) == intsOf (wA .u8 64 (sh5 ([]:List Int))))=true:=(by rw[hS];exact beq_self_eq_true _)
  have h1:(((bstr ((wA .u8 c3 (([]:List Int) ++ [77])).extract 0 (0+0)))).toList == ((bstr #[])).toList)=true:=(by rw[show(wA .u8 c3 (([]:List Int) ++ [77])).extract 0 (0+0)= #[] from by simp];exact beq_self_eq_true _)
  have h2:true=true:=(by first|rfl|assumption)
  refine(runs_ev mixed _ (lw5n4p_0 g0 g1 c3 S j) ⟨⟨⟨⟨⟨⟨⟨⟨⟨⟨⟨⟨⟨⟨⟨⟨⟨⟨⟨⟨⟨⟨⟨⟨⟨⟨⟨trivial,trivial⟩,trivial⟩,⟨src_nil,⟨_,rfl⟩,rfl,by decide⟩⟩,⟨⟨⟨S,by rw[hS];exact sh5_len _,wA_iv (by rw[hS];exact sh5_len _)⟩,⟨_,sh5_len _,wA_iv (sh5_len _)⟩⟩,h0⟩⟩,trivial⟩,trivial⟩,⟨b8_ext (lentb (a:= #[]) (o:=0) (l:=0) (fun j h=>by omega) hc3) (by rw[wA_size];omega),by rw[wA_size];omega⟩⟩,trivial⟩,trivial⟩,⟨trivial,h1⟩⟩,trivial⟩,trivial⟩,trivial⟩,trivial⟩,trivial⟩,trivial⟩,(by refine⟨⟨?_,?_⟩,?_,?_⟩<;>first|trivial|omega)⟩,trivial⟩,trivial⟩,⟨by decide,by decide⟩⟩,⟨(at77 (N:= []) rfl hc3 (by split<;>rfl)),rfl⟩⟩,⟨trivial,h2⟩⟩,trivial⟩,trivial⟩,⟨rfl,rfl⟩⟩,trivial⟩,trivial⟩).mono ?_
  rintro e s ⟨rfl,hs⟩
  refine⟨rfl,fun q=>s.tm.getD q undef,s.c,s.ch,?_⟩
  subst hs
  kernel_rfl
theorem lw5nu (g0 g1:Tq) (j:Nat→Value)   {c0:Prop} {ch0:List (Option Value)}:Runs Tryd.prog (cAt [] (bdy Tryd.f4)) ⟨lw5nA_s g0 g1 j,lw5nA_m g0 g1,c0,ch0⟩ (fun e s=>e= .ret∧∃(k12:Nat) (j:Nat→Value) (c:Prop) (ch:List (Option Value)),(0+1≤k12)∧((sum5 (wA .u8 k12 (([]:List Int) ++ [77])) 0 0)=sh5 ([]:List Int))∧s=⟨lw5nE_s g0 g1 k12 (sum5 (wA .u8 k12 (([]:List Int) ++ [77])) 0 0) j,lw5nE_m g0 g1 k12 (sum5 (wA .u8 k12 (([]:List Int) ++ [77])) 0 0),c,ch⟩) 2000002:=by
  rw[show(cAt [] (bdy Tryd.f4))=(.seq (cAt [0] (bdy Tryd.f4)) (.seq (cAt [1,0] (bdy Tryd.f4)) (.seq (cAt [1,1,0] (bdy Tryd.f4)) (.seq (cAt [1,1,1,0] (bdy Tryd.f4)) (cAt [1,1,1,1] (bdy Tryd.f4)))))) from by kernel_rfl]
  refine runs_seq (lw5n0 g0 g1 j  ) (fun s hh=> ?_) (fun e s hne hh=>absurd hh.1 hne)
  obtain⟨_,j,c,ch,rfl⟩:=hh
  refine runs_seq (lw5n1 g0 g1 j  ) (fun s hh=> ?_) (fun e s hne hh=>absurd hh.1 hne)
  obtain⟨_,j,c,ch,rfl⟩:=hh
  refine runs_seq (lw5n2 g0 g1 j  ) (fun s hh=> ?_) (fun e s hne hh=>absurd hh.1 hne)
  obtain⟨_,k12,j,c,ch,f2_0,rfl⟩:=hh
  refine runs_seq (lw5n3 g0 g1 k12 j f2_0 ) (fun s hh=> ?_) (fun e s hne hh=>absurd hh.1 hne)
  obtain⟨_,j,c,ch,f3_1,rfl⟩:=hh
  refine(lw5n4 g0 g1 k12 (sum5 (wA .u8 k12 (([]:List Int) ++ [77])) 0 0) j f2_0 f3_1 ).mono ?_
  rintro e s ⟨rfl,j,c,ch,rfl⟩
  exact⟨rfl,k12,j,c,ch,f2_0,f3_1,rfl⟩
theorem LawSha5_some (g0 g1 t:Tq) (a:Array Value) (o l cp:Nat) (hb:bytesAt a o l) (hz:o+l≤a.size) (hcp:l≤cp):Reads Tryd.prog 4 [(wA .u32 64 kL2,g0),(wA .u64 80 kL5,g1),(a,t)] [.slice (some ⟨2,o,none⟩) l cp] (.bool true) 2:=by
  refine reads_runs (fk:=2000003) (yty.enm tabL6 [mEnd] 2000003) Tryd.func4 (c:=bdy Tryd.f4) (by kernel_rfl) ⟨len3 _ _ _,by decide⟩ (args:= [.slice (some ⟨2,o,none⟩) l cp]) (by kernel_rfl) (K:=fun e s=>e= .ret∧resS (yty.enm tabL6 [mEnd] 2000003) s Tryd.f4.results.toList=some [.bool true]) ?_ (fun e s h=>⟨h.1,_,h.2,rfl⟩)
  by_cases hl:4096<l
  · refine (lw5sv g0 g1 t a o l cp (fun _ => undef) hl).mono ?_
    rintro e s ⟨rfl,j,c,ch,rfl⟩
    exact⟨rfl,by kernel_rfl⟩
  · refine (lw5su g0 g1 t a o l cp (fun _ => undef) hb hz hcp (by omega)).mono ?_
    rintro e s ⟨rfl,hh⟩
    obtain⟨c3,j,c,ch,hc3,hS,rfl⟩:=hh
    exact⟨rfl,by kernel_rfl⟩
theorem LawSha5_nil (g0 g1:Tq):Reads Tryd.prog 4 [(wA .u32 64 kL2,g0),(wA .u64 80 kL5,g1)] [.slice none 0 0] (.bool true) 2:=by
  refine reads_runs (fk:=2000002) (yty.enm tabL6 [mEnd] 2000002) Tryd.func4 (c:=bdy Tryd.f4) (by kernel_rfl) ⟨len2 _ _,by decide⟩ (args:= [.slice none 0 0]) (by kernel_rfl) (K:=fun e s=>e= .ret∧resS (yty.enm tabL6 [mEnd] 2000002) s Tryd.f4.results.toList=some [.bool true]) ?_ (fun e s h=>⟨h.1,_,h.2,rfl⟩)
  refine(lw5nu g0 g1 (fun _=>undef)).mono ?_
  rintro e s ⟨rfl,hh⟩
  obtain⟨c3,j,c,ch,hc3,hS,rfl⟩:=hh
  exact⟨rfl,by kernel_rfl⟩
end Go.Proofs.YteikpadpogkepaaDoor
