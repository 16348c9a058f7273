import Derived.Test.YtnadkbniljejfaaZSPvalSiA1
set_option linter.unusedSimpArgs false
set_option linter.unusedVariables false
/-! siv: bytes absorbed. -/
namespace Go.Proofs.Ytnadkbniljejfaa
open Go.RowKit Go.Ev
def Bk (a:Array Value) (bp:Option Addr) (r q:Nat):Prop:=r≤q∧((bp=none∧r=0∧q=0)∨∃ p,bp=some ⟨0,p,none⟩∧bytesAt a p r∧p+r≤a.size)
def bO (a:Array Value) (bp:Option Addr) (r:Nat):List Int:=match bp with
  |some A=>bL a A.off r
  |none=> []
theorem xor0 {x:Int} (h:0≤x∧x<256):bits .xor .u8 x 0=x:=by
  have h':∀ x:Fin 256,bits .xor .u8 ((x.1:Nat):Int) 0=((x.1:Nat):Int):=by decide+kernel
  have:=h' ⟨x.toNat,by omega⟩
  simp only at this
  rwa[show((x.toNat:Nat):Int)=x by omega] at this
def xr (S B:List Int):List Int:=(List.range 16).map fun i=>bits .xor .u8 (S.getD i 0) (B.getD i 0)
theorem xr_by (S B:List Int):By (xr S B):=by_ofFn fun _ _=>xb _ _ _
def absN (H:List Int):Nat→List Int→List Int→List Int
  |0,S,_=>S
  |n+1,S,L=>absN H n (dotL (xr S L) H) (L.drop 16)
def absL (H S L:List Int):List Int:=absN H ((L.length+15) / 16) (dL8 (wA .u8 16 S)) L
theorem absN_n (H S L:List Int) (k:Nat):wA .u8 16 (absN H k (dL8 (wA .u8 16 S)) L)=wA .u8 16 (absN H k S L):=by
  cases k with
  |zero=>exact(dL8_self 16 S).symm
  | succ k =>
    have e:xr (dL8 (wA .u8 16 S)) L=xr S L:=List.map_congr_left fun i hi=>by
      have hi:i<16:=by simpa using hi
      rw[dL8_wA,if_pos hi]
    rw[absN,absN,e]
theorem absN_w (H:List Int):∀(k:Nat) (S L:List Int),absN (dL8 (wA .u8 16 H)) k S L=absN H k S L
  |0,_,_=>rfl
  |k+1,S,L=>by rw[absN,absN,dotL_w2,absN_w H k]
theorem absL_w (H S L:List Int):absL (dL8 (wA .u8 16 H)) (dL8 (wA .u8 16 S)) L=absL H S L:=by
  unfold absL
  rw[absN_w,← dL8_self 16 S]
theorem absL_w1 (H S L:List Int):absL H (dL8 (wA .u8 16 S)) L=absL H S L:=by
  unfold absL
  rw[← dL8_self 16 S]
theorem absN_by {H:List Int}:∀(n:Nat) {S L:List Int},By S→By (absN H n S L)
  |0,_,_,h=>h
  |n+1,S,L,_=>absN_by n (dotL_by _ _)
theorem absL_by {H S L:List Int} (h:By S):By (absL H S L):=absN_by _ (by_dL8 h)
def xrn (S:List Int) (a:Array Value) (p i:Nat):List Int:=(List.range 16).map fun k=>if k<i then bits .xor .u8 (S.getD k 0) (iat a (p+k)) else S.getD k 0
theorem xrn_0 (S:List Int) (a:Array Value) (p:Nat):wA .u8 16 S=wA .u8 16 (xrn S a p 0):=by
  refine wA_ext (wA_size _ _ _) (fun i hi=> ?_)
  unfold xrn
  rw[wA_at hi,ofFn_at hi,if_neg (by omega)]
theorem xrn_step {S Z:List Int} {a:Array Value} {p i:Nat} (hi:i<16) (hZ:Z=xrn S a p i):lset 16 Z i (bits .xor .u8 (Z.getD i 0) (iat a (p+i)))=xrn S a p (i+1):=by
  subst hZ
  unfold lset
  refine List.map_congr_left fun k hk=> ?_
  have hk:k<16:=by simpa using hk
  by_cases e:k=i
  · subst e
    unfold xrn
    rw[if_pos rfl,if_pos (by omega),ofFn_at hk,if_neg (by omega)]
  · rw [if_neg e]
    unfold xrn
    rw[ofFn_at hk]
    by_cases h:k<i
    · rw[if_pos h,if_pos (by omega)]
    · rw[if_neg h,if_neg (by omega)]
theorem xrn_end {S:List Int} {a:Array Value} {p r n:Nat} (hS:By S) (hn:n=Nat.min 16 r):xrn S a p n=xr S (bL a p r):=by
  refine List.map_congr_left fun k hk=> ?_
  have hk:k<16:=by simpa using hk
  have hm:n=min 16 r:=hn
  rw[bL_at]
  by_cases h:k<n
  · rw[if_pos h,if_pos (by omega)]
  · rw[if_neg h,if_neg (by omega),xor0 (hS k)]
theorem abs_step {H S R:List Int} {a:Array Value} {p p' q r n:Nat} (hr:0<r) (hq:r≤q) (hn:n=Nat.min 16 r) (hp:p'=if q=n then p else p+n*1) (hR:absN H ((r+15) / 16) S (bL a p r)=R):absN H ((r - n+15) / 16) (dotL (xr S (bL a p r)) H) (bL a p' (r - n))=R:=by
  have hm:n=min 16 r:=hn
  have e:(r+15) / 16=(r - n+15) / 16+1:=by omega
  rw[e] at hR
  rw[← hR,absN]
  congr 1
  unfold bL
  rw[← List.map_drop]
  by_cases h:r≤16
  · rw[show r - n=0 by omega,List.drop_eq_nil_of_le (by simp;omega)];rfl
  · rw [hp, if_neg (by omega)]
    apply List.ext_getElem?
    intro i
    simp only[List.getElem?_map,List.getElem?_drop]
    by_cases hi:i<r - n
    · rw [List.getElem?_range hi, List.getElem?_range (by omega)]
      simp only[Option.map_some]
      congr 2;omega
    · rw[List.getElem?_eq_none (by simp;omega),List.getElem?_eq_none (by simp;omega)];rfl
abbrev sAbA_s (a:Array Value) (t:Tq) (H R:List Int) (bp:Option Addr) (r q:Nat) (S:List Int) (j:Nat→Value):List Value:=([.agg (wA .u8 16 S),.agg (wA .u8 16 H),.slice bp r q] ++ (JU 36))
abbrev sAbA_m (a:Array Value) (t:Tq) (H R:List Int) (bp:Option Addr) (r q:Nat) (S:List Int):List Mb:= [(a,t)]
abbrev sAbB_s (a:Array Value) (t:Tq) (H R:List Int) (bp:Option Addr) (r q:Nat) (S:List Int) (j:Nat→Value):List Value:=([j 0,j 1,.slice bp r q,.pointer (some ⟨1,0,none⟩),.pointer (some ⟨2,0,none⟩),j 5,.pointer (some ⟨3,0,none⟩)] ++ (J j 7 32))
abbrev sAbB_m (a:Array Value) (t:Tq) (H R:List Int) (bp:Option Addr) (r q:Nat) (S:List Int):List Mb:= [(a,t),((wA .u8 16 S),(22,(0,0))),((wA .u8 16 H),(22,(0,0))),((wA .u8 16 []),(22,(0,0)))]
def sAb0p_h (i:Nat):Hn:=⟨0,[],[],[],[]⟩
def sAb0p_b (a:Array Value) (t:Tq) (H R:List Int) (bp:Option Addr) (r q:Nat) (S:List Int) (j:Nat→Value):List Value:=([.agg (wA .u8 16 S),.agg (wA .u8 16 H),.slice bp r q,.pointer (some ⟨1,0,none⟩),.pointer (some ⟨2,0,none⟩),undef,.pointer (some ⟨3,0,none⟩)] ++ (JU 32))
theorem sAb0p_0 (a:Array Value) (t:Tq) (H R:List Int) (bp:Option Addr) (r q:Nat) (S:List Int) (j:Nat→Value):evC (yty.enf tabW1 1) sAb0p_h (cAt [0] (bdy Try.f30)) ⟨sAbA_s a t H R bp r q S j,sAbA_m a t H R bp r q S,True,[]⟩=some (.normal,⟨sAb0p_b a t H R bp r q S j,[(a,t),((wA .u8 16 S),(22,(0,0))),((wA .u8 16 H),(22,(0,0))),((wA .u8 16 []),(22,(0,0)))],True,[]⟩):=by kernel_rfl
theorem sAb0 (a:Array Value) (t:Tq) (H R:List Int) (bp:Option Addr) (r q:Nat) (S:List Int) (j:Nat→Value) (hH:By H) (hS:By S) (hb:Bk a bp r q) (hr:r≤1000000000) (hR:absN H ((r+15) / 16) S (bO a bp r)=R)  {c0:Prop} {ch0:List (Option Value)}:Runs Try.prog (cAt [0] (bdy Try.f30)) ⟨sAbA_s a t H R bp r q S j,sAbA_m a t H R bp r q S,c0,ch0⟩ (fun e s=>e= .normal∧∃(j:Nat→Value) (c:Prop) (ch:List (Option Value)),s=⟨sAbB_s a t H R bp r q S j,sAbB_m a t H R bp r q S,c,ch⟩) 1:=by
  refine(runs_ev mixed _ (sAb0p_0 a t H R bp r q S j) trivial).mono ?_
  rintro e s ⟨rfl,hs⟩
  refine⟨rfl,fun q=>s.tm.getD q undef,s.c,s.ch,?_⟩
  subst hs
  kernel_rfl
abbrev sAbC_s (a:Array Value) (t:Tq) (H R:List Int) (p r q:Nat) (S:List Int) (j:Nat→Value):List Value:=([j 0,j 1,.slice (some ⟨0,p,none⟩) r q,.pointer (some ⟨1,0,none⟩),.pointer (some ⟨2,0,none⟩),j 5,.pointer (some ⟨3,0,none⟩)] ++ (J j 7 32))
abbrev sAbC_m (a:Array Value) (t:Tq) (H R:List Int) (p r q:Nat) (S:List Int):List Mb:= [(a,t),((wA .u8 16 S),(22,(0,0))),((wA .u8 16 H),(22,(0,0))),((wA .u8 16 []),(22,(0,0)))]
def sAb1p_h (i:Nat):Hn:=⟨0,[],[],[],[]⟩
def sAb1p_b (a:Array Value) (t:Tq) (H R:List Int) (p r q:Nat) (S:List Int) (j:Nat→Value):List Value:=([j 0,j 1,.slice (some ⟨0,p,none⟩) r q,.pointer (some ⟨1,0,none⟩),.pointer (some ⟨2,0,none⟩),j 5,.pointer (some ⟨3,0,none⟩)] ++ (J j 7 3 ++ ([.slice (some ⟨0,p,none⟩) r q,.int .i64 ((r:Nat):Int),.bool true] ++ (J j 13 26))))
theorem sAb1p_0 (a:Array Value) (t:Tq) (H R:List Int) (p r q:Nat) (S:List Int) (j:Nat→Value):evC (yty.enf tabW1 1) sAb1p_h (cAt [1,0,0,0,0] (bdy Try.f30)) ⟨sAbC_s a t H R p r q S j,sAbC_m a t H R p r q S,True,[some (.bool true)]⟩=some (.normal,⟨sAb1p_b a t H R p r q S j,[(a,t),((wA .u8 16 S),(22,(0,0))),((wA .u8 16 H),(22,(0,0))),((wA .u8 16 []),(22,(0,0)))],(((True∧True)∧True)∧(True∧(decide (0<((r:Nat):Int)))=true)),[]⟩):=by kernel_rfl
theorem sAb1 (a:Array Value) (t:Tq) (H R:List Int) (p r q:Nat) (S:List Int) (j:Nat→Value) (hH:By H) (hS:By S) (hb:bytesAt a p r) (hz:p+r≤a.size) (hq:r≤q) (hr:r≤1000000000) (hpos:0<r) (hR:absN H ((r+15) / 16) S (bL a p r)=R)  {c0:Prop} {ch0:List (Option Value)}:Runs Try.prog (cAt [1,0,0,0,0] (bdy Try.f30)) ⟨sAbC_s a t H R p r q S j,sAbC_m a t H R p r q S,c0,ch0⟩ (fun e s=>e= .normal∧∃(j:Nat→Value) (c:Prop) (ch:List (Option Value)),s=⟨sAbC_s a t H R p r q S j,sAbC_m a t H R p r q S,c,ch⟩) 1:=by
  have h0:(decide (0<((r:Nat):Int)))=true:=(decide_eq_true (by omega))
  refine(runs_ev mixed _ (sAb1p_0 a t H R p r q S j) ⟨⟨⟨trivial,trivial⟩,trivial⟩,⟨trivial,h0⟩⟩).mono ?_
  rintro e s ⟨rfl,hs⟩
  refine⟨rfl,fun q=>s.tm.getD q undef,s.c,s.ch,?_⟩
  subst hs
  kernel_rfl
abbrev sAbD_s (a:Array Value) (t:Tq) (H R:List Int) (p r q:Nat) (S:List Int) (n:Nat) (j:Nat→Value):List Value:=([j 0,j 1,.slice (some ⟨0,p,none⟩) r q,.pointer (some ⟨1,0,none⟩),.pointer (some ⟨2,0,none⟩),j 5,.pointer (some ⟨3,0,none⟩),.int .i64 ((n:Nat):Int)] ++ (J j 8 31))
abbrev sAbD_m (a:Array Value) (t:Tq) (H R:List Int) (p r q:Nat) (S:List Int) (n:Nat):List Mb:= [(a,t),((wA .u8 16 S),(22,(0,0))),((wA .u8 16 H),(22,(0,0))),((wA .u8 16 []),(22,(0,0)))]
def sAb2p_h (i:Nat):Hn:=⟨0,[],[],[],[]⟩
def sAb2p_b (a:Array Value) (t:Tq) (H R:List Int) (p r q:Nat) (S:List Int) (j:Nat→Value):List Value:=([j 0,j 1,.slice (some ⟨0,p,none⟩) r q,.pointer (some ⟨1,0,none⟩),.pointer (some ⟨2,0,none⟩),j 5,.pointer (some ⟨3,0,none⟩),.int .i64 ((Nat.min 16 r:Nat):Int)] ++ (J j 8 5 ++ ([.slice (some ⟨0,p,none⟩) r q,.int .i64 ((r:Nat):Int),.int .i64 ((Nat.min 16 r:Nat):Int)] ++ (J j 16 23))))
theorem sAb2p_0 (a:Array Value) (t:Tq) (H R:List Int) (p r q:Nat) (S:List Int) (j:Nat→Value):evC (yty.enf tabW1 1) sAb2p_h (cAt [1,0,0,0,1,0,0] (bdy Try.f30)) ⟨sAbC_s a t H R p r q S j,sAbC_m a t H R p r q S,True,[]⟩=some (.normal,⟨sAb2p_b a t H R p r q S j,[(a,t),((wA .u8 16 S),(22,(0,0))),((wA .u8 16 H),(22,(0,0))),((wA .u8 16 []),(22,(0,0)))],((((True∧True)∧True)∧((0:Int)≤16∧(0:Int)≤((r:Nat):Int)))∧True),[]⟩):=by kernel_rfl
theorem sAb2 (a:Array Value) (t:Tq) (H R:List Int) (p r q:Nat) (S:List Int) (j:Nat→Value) (hH:By H) (hS:By S) (hb:bytesAt a p r) (hz:p+r≤a.size) (hq:r≤q) (hr:r≤1000000000) (hpos:0<r) (hR:absN H ((r+15) / 16) S (bL a p r)=R)  {c0:Prop} {ch0:List (Option Value)}:Runs Try.prog (cAt [1,0,0,0,1,0,0] (bdy Try.f30)) ⟨sAbC_s a t H R p r q S j,sAbC_m a t H R p r q S,c0,ch0⟩ (fun e s=>e= .normal∧∃(j:Nat→Value) (c:Prop) (ch:List (Option Value)),((Nat.min 16 r)=Nat.min 16 r)∧s=⟨sAbD_s a t H R p r q S (Nat.min 16 r) j,sAbD_m a t H R p r q S (Nat.min 16 r),c,ch⟩) 1:=by
  refine(runs_ev mixed _ (sAb2p_0 a t H R p r q S j) ⟨⟨⟨⟨trivial,trivial⟩,trivial⟩,⟨by omega,by omega⟩⟩,trivial⟩).mono ?_
  rintro e s ⟨rfl,hs⟩
  refine⟨rfl,fun q=>s.tm.getD q undef,s.c,s.ch,rfl,?_⟩
  subst hs
  kernel_rfl
abbrev sAbF_s (a:Array Value) (t:Tq) (H R:List Int) (p r q:Nat) (S:List Int) (n:Nat) (p2:Nat) (i:Nat) (Z:List Int) (j:Nat→Value):List Value:=([j 0,j 1,.slice (some ⟨0,p,none⟩) r q,.pointer (some ⟨1,0,none⟩),.pointer (some ⟨2,0,none⟩),j 5,.pointer (some ⟨3,0,none⟩),.int .i64 ((n:Nat):Int)] ++ (J j 8 10 ++ ([.slice (some ⟨0,p2,none⟩) n q,.int .i64 ((n:Nat):Int),.int .i64 ((i:Nat):Int)] ++ (J j 21 18))))
abbrev sAbF_m (a:Array Value) (t:Tq) (H R:List Int) (p r q:Nat) (S:List Int) (n:Nat) (p2:Nat) (i:Nat) (Z:List Int):List Mb:= [(a,t),((wA .u8 16 Z),(22,(0,0))),((wA .u8 16 H),(22,(0,0))),((wA .u8 16 []),(22,(0,0)))]
def sAb3p_h (i:Nat):Hn:=⟨0,[],[],[],[]⟩
def sAb3p_b (a:Array Value) (t:Tq) (H R:List Int) (p r q:Nat) (S:List Int) (n:Nat) (j:Nat→Value):List Value:=([j 0,j 1,.slice (some ⟨0,p,none⟩) r q,.pointer (some ⟨1,0,none⟩),.pointer (some ⟨2,0,none⟩),j 5,.pointer (some ⟨3,0,none⟩),.int .i64 ((n:Nat):Int)] ++ (J j 8 8 ++ ([.slice (some ⟨0,p,none⟩) r q,.int .i64 ((n:Nat):Int),.slice (some ⟨0,(if q=0 then p else p+0*1),none⟩) n q,.int .i64 ((n:Nat):Int),.int .i64 0] ++ (J j 21 18))))
theorem sAb3p_0 (a:Array Value) (t:Tq) (H R:List Int) (p r q:Nat) (S:List Int) (n:Nat) (j:Nat→Value):evC (yty.enf tabW1 1) sAb3p_h (cAt [1,0,0,0,1,0,1,0,0] (bdy Try.f30)) ⟨sAbD_s a t H R p r q S n j,sAbD_m a t H R p r q S n,True,[]⟩=some (.normal,⟨sAb3p_b a t H R p r q S n j,[(a,t),((wA .u8 16 S),(22,(0,0))),((wA .u8 16 H),(22,(0,0))),((wA .u8 16 []),(22,(0,0)))],(((((True∧True)∧True)∧((True∧(0≤((n:Nat):Int)))∧0≤n∧n≤q))∧True)∧True),[]⟩):=by kernel_rfl
theorem sAb3 (a:Array Value) (t:Tq) (H R:List Int) (p r q:Nat) (S:List Int) (n:Nat) (j:Nat→Value) (hH:By H) (hS:By S) (hb:bytesAt a p r) (hz:p+r≤a.size) (hq:r≤q) (hr:r≤1000000000) (hpos:0<r) (hR:absN H ((r+15) / 16) S (bL a p r)=R) (hn:n=Nat.min 16 r)  {c0:Prop} {ch0:List (Option Value)}:Runs Try.prog (cAt [1,0,0,0,1,0,1,0,0] (bdy Try.f30)) ⟨sAbD_s a t H R p r q S n j,sAbD_m a t H R p r q S n,c0,ch0⟩ (fun e s=>e= .normal∧∃(j:Nat→Value) (c:Prop) (ch:List (Option Value)),((if q=0 then p else p+0*1)=p)∧((xrn S a p 0)=xrn S a p 0)∧(0≤n)∧s=⟨sAbF_s a t H R p r q S n (if q=0 then p else p+0*1) 0 (xrn S a p 0) j,sAbF_m a t H R p r q S n (if q=0 then p else p+0*1) 0 (xrn S a p 0),c,ch⟩) 1:=by
  have hm:n=min 16 r:=hn
  refine(runs_ev mixed _ (sAb3p_0 a t H R p r q S n j) ⟨⟨⟨⟨⟨trivial,trivial⟩,trivial⟩,(by refine⟨⟨?_,?_⟩,?_,?_⟩<;>first|trivial|omega)⟩,trivial⟩,trivial⟩).mono ?_
  rintro e s ⟨rfl,hs⟩
  refine⟨rfl,fun q=>s.tm.getD q undef,s.c,s.ch,by rw[if_neg (by omega)];omega,rfl,by omega,?_⟩
  subst hs
  rw[xrn_0 S a p]
  kernel_rfl
def sAb4p_h (i:Nat):Hn:=⟨0,[],[],[],[]⟩
def sAb4p_b (a:Array Value) (t:Tq) (H R:List Int) (p r q:Nat) (S:List Int) (n:Nat) (p2:Nat) (i:Nat) (Z:List Int) (j:Nat→Value):List Value:=([j 0,j 1,.slice (some ⟨0,p,none⟩) r q,.pointer (some ⟨1,0,none⟩),.pointer (some ⟨2,0,none⟩),j 5,.pointer (some ⟨3,0,none⟩),.int .i64 ((n:Nat):Int),.int .i64 ((i:Nat):Int),.int .u8 (iat a (p+i))] ++ (J j 10 8 ++ ([.slice (some ⟨0,p2,none⟩) n q,.int .i64 ((n:Nat):Int),.int .i64 ((i+1:Nat):Int),.bool true,.int .i64 ((i:Nat):Int),.pointer (some ⟨0,p2+Int.toNat ((i:Nat):Int)*1,none⟩),.int .u8 (iat a (p+i)),.int .i64 ((i:Nat):Int),.pointer (some ⟨1,0+Int.toNat ((i:Nat):Int)*1,none⟩),.int .u8 (Z.getD i 0),.int .u8 (iat a (p+i)),.int .u8 (bits .xor .u8 (Z.getD i 0) (iat a (p+i))),.pointer (some ⟨1,0+Int.toNat ((i:Nat):Int)*1,none⟩),.int .i64 ((i+1:Nat):Int)] ++ (J j 32 7))))
theorem sAb4p_0 (a:Array Value) (t:Tq) (H R:List Int) (p r q:Nat) (S:List Int) (n:Nat) (p2:Nat) (i:Nat) (Z:List Int) (j:Nat→Value):evC (yty.enf tabW1 1) sAb4p_h (cAt [1,0,0,0,1,0,1,0,1,0,0] (bdy Try.f30)) ⟨sAbF_s a t H R p r q S n p2 i Z j,sAbF_m a t H R p r q S n p2 i Z,True,[some (.bool true),some (.int .u8 (iat a (p+i))),some (.int .u8 (Z.getD i 0)),none,some (.agg (wA .u8 16 (lset 16 Z i (bits .xor .u8 (Z.getD i 0) (iat a (p+i)))))),some (.int .i64 ((i+1:Nat):Int))]⟩=some (.normal,⟨sAb4p_b a t H R p r q S n p2 i Z j,[(a,t),((wA .u8 16 (lset 16 Z i (bits .xor .u8 (Z.getD i 0) (iat a (p+i))))),(22,(0,0))),((wA .u8 16 H),(22,(0,0))),((wA .u8 16 []),(22,(0,0)))],(((((((((((((((True∧(True∧(decide (((i:Nat):Int)<((n:Nat):Int)))=true))∧True)∧((0:Int)≤((i:Nat):Int)∧(((i:Nat):Int):Int)<((n:Nat):Int)))∧((a[(p2+Int.toNat ((i:Nat):Int)*1)]? =some (.int .u8 (iat a (p+i))))∧(iat a (p+i))=(iat a (p+i))))∧True)∧True)∧True)∧(0≤((i:Nat):Int)∧((i:Nat):Int)<((16:Nat):Int)))∧(((wA .u8 16 Z)[(0+Int.toNat ((i:Nat):Int)*1)]? =some (.int .u8 (Z.getD i 0)))∧(Z.getD i 0)=(Z.getD i 0)))∧True)∧True)∧(0≤((i:Nat):Int)∧((i:Nat):Int)<((16:Nat):Int)))∧((0+Int.toNat ((i:Nat):Int)*1)<(wA .u8 16 Z).size∧(wA .u8 16 Z).setIfInBounds (0+Int.toNat ((i:Nat):Int)*1) (.int .u8 (bits .xor .u8 (Z.getD i 0) (iat a (p+i))))=(wA .u8 16 (lset 16 Z i (bits .xor .u8 (Z.getD i 0) (iat a (p+i)))))))∧(True∧(IntKind.i64.wrap (((i:Nat):Int)+1))=((i+1:Nat):Int)))∧True),[]⟩):=by kernel_rfl
theorem sAb4 (a:Array Value) (t:Tq) (H R:List Int) (p r q:Nat) (S:List Int) (n:Nat) (p2:Nat) (i:Nat) (Z:List Int) (j:Nat→Value) (hH:By H) (hS:By S) (hb:bytesAt a p r) (hz:p+r≤a.size) (hq:r≤q) (hr:r≤1000000000) (hpos:0<r) (hR:absN H ((r+15) / 16) S (bL a p r)=R) (hn:n=Nat.min 16 r) (hp2:p2=p) (hZ:Z=xrn S a p i) (hi:i≤n) (hlt:i<n) {c0:Prop} {ch0:List (Option Value)}:Runs Try.prog (cAt [1,0,0,0,1,0,1,0,1,0,0] (bdy Try.f30)) ⟨sAbF_s a t H R p r q S n p2 i Z j,sAbF_m a t H R p r q S n p2 i Z,c0,ch0⟩ (fun e s=>e= .normal∧∃(j:Nat→Value) (c:Prop) (ch:List (Option Value)),((lset 16 Z i (bits .xor .u8 (Z.getD i 0) (iat a (p+i))))=xrn S a p (i+1))∧((i+1)≤n)∧s=⟨sAbF_s a t H R p r q S n p2 (i+1) (lset 16 Z i (bits .xor .u8 (Z.getD i 0) (iat a (p+i)))) j,sAbF_m a t H R p r q S n p2 (i+1) (lset 16 Z i (bits .xor .u8 (Z.getD i 0) (iat a (p+i)))),c,ch⟩) 1:=by
  have hm:n=min 16 r:=hn
  have h0:(decide (((i:Nat):Int)<((n:Nat):Int)))=true:=(decide_eq_true (by omega))
  refine(runs_ev mixed _ (sAb4p_0 a t H R p r q S n p2 i Z j) ⟨⟨⟨⟨⟨⟨⟨⟨⟨⟨⟨⟨⟨⟨⟨trivial,⟨trivial,h0⟩⟩,trivial⟩,(by(try simp only[Int.toNat_natCast,wA_size]);omega)⟩,⟨(by rw[Int.toNat_natCast,Nat.mul_one,hp2];exact(hb i (by have hm:n=min 16 r:=hn;omega)).1),rfl⟩⟩,trivial⟩,trivial⟩,trivial⟩,(by(try simp only[Int.toNat_natCast,wA_size]);omega)⟩,⟨(wA_get (by omega) (by omega)),rfl⟩⟩,trivial⟩,trivial⟩,(by(try simp only[Int.toNat_natCast,wA_size]);omega)⟩,⟨(by rw[wA_size];omega),wA_putE (by omega) (by omega)⟩⟩,⟨trivial,(by rw[IntKind.wrap_i64];omega)⟩⟩,trivial⟩).mono ?_
  rintro e s ⟨rfl,hs⟩
  refine⟨rfl,fun q=>s.tm.getD q undef,s.c,s.ch,xrn_step (by omega) hZ,by omega,?_⟩
  subst hs
  kernel_rfl
abbrev sAbG_s (a:Array Value) (t:Tq) (H R:List Int) (p r q:Nat) (S:List Int) (n:Nat) (p2:Nat) (i:Nat) (Z:List Int) (j:Nat→Value):List Value:=([j 0,j 1,.slice (some ⟨0,p,none⟩) r q,.pointer (some ⟨1,0,none⟩),.pointer (some ⟨2,0,none⟩),j 5,.pointer (some ⟨3,0,none⟩),.int .i64 ((n:Nat):Int)] ++ (J j 8 31))
abbrev sAbG_m (a:Array Value) (t:Tq) (H R:List Int) (p r q:Nat) (S:List Int) (n:Nat) (p2:Nat) (i:Nat) (Z:List Int):List Mb:= [(a,t),((wA .u8 16 Z),(22,(0,0))),((wA .u8 16 H),(22,(0,0))),((wA .u8 16 []),(22,(0,0)))]
def sAb5p_h (i:Nat):Hn:=⟨0,[],[],[],[]⟩
def sAb5p_b (a:Array Value) (t:Tq) (H R:List Int) (p r q:Nat) (S:List Int) (n:Nat) (p2:Nat) (i:Nat) (Z:List Int) (j:Nat→Value):List Value:=([j 0,j 1,.slice (some ⟨0,p,none⟩) r q,.pointer (some ⟨1,0,none⟩),.pointer (some ⟨2,0,none⟩),j 5,.pointer (some ⟨3,0,none⟩),.int .i64 ((n:Nat):Int)] ++ (J j 8 10 ++ ([.slice (some ⟨0,p2,none⟩) n q,.int .i64 ((n:Nat):Int),.int .i64 ((i:Nat):Int),.bool false] ++ (J j 22 17))))
theorem sAb5p_0 (a:Array Value) (t:Tq) (H R:List Int) (p r q:Nat) (S:List Int) (n:Nat) (p2:Nat) (i:Nat) (Z:List Int) (j:Nat→Value):evC (yty.enf tabW1 1) sAb5p_h (cAt [1,0,0,0,1,0,1,0,1,0,0] (bdy Try.f30)) ⟨sAbF_s a t H R p r q S n p2 i Z j,sAbF_m a t H R p r q S n p2 i Z,True,[some (.bool false)]⟩=some ((.exit 2),⟨sAb5p_b a t H R p r q S n p2 i Z j,[(a,t),((wA .u8 16 Z),(22,(0,0))),((wA .u8 16 H),(22,(0,0))),((wA .u8 16 []),(22,(0,0)))],(True∧(True∧(decide (((i:Nat):Int)<((n:Nat):Int)))=false)),[]⟩):=by kernel_rfl
theorem sAb5 (a:Array Value) (t:Tq) (H R:List Int) (p r q:Nat) (S:List Int) (n:Nat) (p2:Nat) (i:Nat) (Z:List Int) (j:Nat→Value) (hH:By H) (hS:By S) (hb:bytesAt a p r) (hz:p+r≤a.size) (hq:r≤q) (hr:r≤1000000000) (hpos:0<r) (hR:absN H ((r+15) / 16) S (bL a p r)=R) (hn:n=Nat.min 16 r) (hp2:p2=p) (hZ:Z=xrn S a p i) (hi:i≤n) (hge:¬ i<n) {c0:Prop} {ch0:List (Option Value)}:Runs Try.prog (cAt [1,0,0,0,1,0,1,0,1,0,0] (bdy Try.f30)) ⟨sAbF_s a t H R p r q S n p2 i Z j,sAbF_m a t H R p r q S n p2 i Z,c0,ch0⟩ (fun e s=>e=(.exit 2)∧∃(j:Nat→Value) (c:Prop) (ch:List (Option Value)),(Z=xr S (bL a p r))∧s=⟨sAbG_s a t H R p r q S n p2 i Z j,sAbG_m a t H R p r q S n p2 i Z,c,ch⟩) 1:=by
  have h0:(decide (((i:Nat):Int)<((n:Nat):Int)))=false:=(decide_eq_false (by omega))
  refine(runs_ev mixed _ (sAb5p_0 a t H R p r q S n p2 i Z j) ⟨trivial,⟨trivial,h0⟩⟩).mono ?_
  rintro e s ⟨rfl,hs⟩
  refine⟨rfl,fun q=>s.tm.getD q undef,s.c,s.ch,by rw[hZ,show i=n by omega];exact xrn_end hS hn,?_⟩
  subst hs
  kernel_rfl
theorem sAb6L (a:Array Value) (t:Tq) (H:List Int) (R:List Int) (p:Nat) (r:Nat) (q:Nat) (S:List Int) (n:Nat) (p2:Nat) (j:Nat→Value) (hH:By H) (hS:By S) (hb:bytesAt a p r) (hz:p+r≤a.size) (hq:r≤q) (hr:r≤1000000000) (hpos:0<r) (hR:absN H ((r+15) / 16) S (bL a p r)=R) (hn:n=Nat.min 16 r) (hp2:p2=p) (ihZ:(xrn S a p 0)=xrn S a p 0) (ihi:0≤n)  {c0:Prop} {ch0:List (Option Value)}:Runs Try.prog (.loop (cAt [1,0,0,0,1,0,1,0,1,0,0] (bdy Try.f30))) ⟨sAbF_s a t H R p r q S n p2 0 (xrn S a p 0) j,sAbF_m a t H R p r q S n p2 0 (xrn S a p 0),c0,ch0⟩ (fun e s=>e= .exit 2∧∃(i:Nat) (Z:List Int) (j:Nat→Value) (c:Prop) (ch:List (Option Value)),(Z=xr S (bL a p r))∧s=⟨sAbG_s a t H R p r q S n p2 i Z j,sAbG_m a t H R p r q S n p2 i Z,c,ch⟩) 1:=by
  refine runs_loop (fun M s=>∃(i:Nat) (Z:List Int) (j:Nat→Value) (c:Prop) (ch:List (Option Value)),(Z=xrn S a p i)∧(i≤n)∧M=n - i∧s=⟨sAbF_s a t H R p r q S n p2 i Z j,sAbF_m a t H R p r q S n p2 i Z,c,ch⟩) (n - 0) ⟨0,(xrn S a p 0),j,c0,ch0,ihZ,ihi,rfl,rfl⟩ ?_
  rintro M s ⟨i,Z,j,c,ch,hZ,hi,rfl,rfl⟩
  by_cases hlt:i<n
  · skip
    refine(sAb4 a t H R p r q S n p2 i Z j hH hS hb hz hq hr hpos hR hn hp2 hZ hi hlt).mono ?_
    rintro e s ⟨rfl,j,c,ch,f10,f11,rfl⟩
    exact .inl ⟨rfl,n - (i+1),by omega,⟨(i+1),(lset 16 Z i (bits .xor .u8 (Z.getD i 0) (iat a (p+i)))),j,c,ch,f10,f11,rfl,rfl⟩⟩
  · refine (sAb5 a t H R p r q S n p2 i Z j hH hS hb hz hq hr hpos hR hn hp2 hZ hi hlt).mono ?_
    intro e s hh
    obtain⟨rfl,j,c,ch,f9,rfl⟩:=hh
    exact .inr ⟨by simp,rfl,i,Z,j,c,ch,f9,rfl⟩
theorem sAb6 (a:Array Value) (t:Tq) (H:List Int) (R:List Int) (p:Nat) (r:Nat) (q:Nat) (S:List Int) (n:Nat) (p2:Nat) (j:Nat→Value) (hH:By H) (hS:By S) (hb:bytesAt a p r) (hz:p+r≤a.size) (hq:r≤q) (hr:r≤1000000000) (hpos:0<r) (hR:absN H ((r+15) / 16) S (bL a p r)=R) (hn:n=Nat.min 16 r) (hp2:p2=p) (ihZ:(xrn S a p 0)=xrn S a p 0) (ihi:0≤n)  {c0:Prop} {ch0:List (Option Value)}:Runs Try.prog (cAt [1,0,0,0,1,0,1,0,1] (bdy Try.f30)) ⟨sAbF_s a t H R p r q S n p2 0 (xrn S a p 0) j,sAbF_m a t H R p r q S n p2 0 (xrn S a p 0),c0,ch0⟩ (fun e s=>e= .normal∧∃(i:Nat) (Z:List Int) (j:Nat→Value) (c:Prop) (ch:List (Option Value)),(Z=xr S (bL a p r))∧s=⟨sAbG_s a t H R p r q S n p2 i Z j,sAbG_m a t H R p r q S n p2 i Z,c,ch⟩) 1:=by
  rw[show(cAt [1,0,0,0,1,0,1,0,1] (bdy Try.f30))= .block 2 (.loop (cAt [1,0,0,0,1,0,1,0,1,0,0] (bdy Try.f30))) from by kernel_rfl]
  refine runs_block (sAb6L a t H R p r q S n p2 j hH hS hb hz hq hr hpos hR hn hp2 ihZ ihi ) ?_
  rintro e s ⟨rfl,hh⟩
  exact .inl ⟨rfl,rfl,hh⟩
theorem sAb7 (a:Array Value) (t:Tq) (H R:List Int) (p r q:Nat) (S:List Int) (n:Nat) (j:Nat→Value) (hH:By H) (hS:By S) (hb:bytesAt a p r) (hz:p+r≤a.size) (hq:r≤q) (hr:r≤1000000000) (hpos:0<r) (hR:absN H ((r+15) / 16) S (bL a p r)=R) (hn:n=Nat.min 16 r)  {c0:Prop} {ch0:List (Option Value)}:Runs Try.prog (cAt [1,0,0,0,1,0,1,0] (bdy Try.f30)) ⟨sAbD_s a t H R p r q S n j,sAbD_m a t H R p r q S n,c0,ch0⟩ (fun e s=>e= .normal∧∃(i1:Nat) (Z1:List Int) (j:Nat→Value) (c:Prop) (ch:List (Option Value)),(Z1=xr S (bL a p r))∧s=⟨sAbG_s a t H R p r q S n (if q=0 then p else p+0*1) i1 Z1 j,sAbG_m a t H R p r q S n (if q=0 then p else p+0*1) i1 Z1,c,ch⟩) 1:=by
  rw[show(cAt [1,0,0,0,1,0,1,0] (bdy Try.f30))=(.seq (cAt [1,0,0,0,1,0,1,0,0] (bdy Try.f30)) (cAt [1,0,0,0,1,0,1,0,1] (bdy Try.f30))) from by kernel_rfl]
  refine runs_seq (sAb3 a t H R p r q S n j hH hS hb hz hq hr hpos hR hn ) (fun s hh=> ?_) (fun e s hne hh=>absurd hh.1 hne)
  obtain⟨_,j,c,ch,f0_9,f0_10,f0_11,rfl⟩:=hh
  refine(sAb6 a t H R p r q S n (if q=0 then p else p+0*1) j hH hS hb hz hq hr hpos hR hn f0_9 f0_10 f0_11 ).mono ?_
  rintro e s ⟨rfl,i1,Z1,j,c,ch,f1_9,rfl⟩
  exact⟨rfl,i1,Z1,j,c,ch,f1_9,rfl⟩
abbrev sAbH_s (a:Array Value) (t:Tq) (H R:List Int) (p r q:Nat) (S:List Int) (n:Nat) (p2:Nat) (i:Nat) (Z:List Int) (V:List Int) (j:Nat→Value):List Value:=([j 0,j 1,.slice (some ⟨0,p,none⟩) r q,.pointer (some ⟨1,0,none⟩),.pointer (some ⟨2,0,none⟩),j 5,.pointer (some ⟨3,0,none⟩),.int .i64 ((n:Nat):Int)] ++ (J j 8 31))
abbrev sAbH_m (a:Array Value) (t:Tq) (H R:List Int) (p r q:Nat) (S:List Int) (n:Nat) (p2:Nat) (i:Nat) (Z:List Int) (V:List Int):List Mb:= [(a,t),((wA .u8 16 V),(22,(0,0))),((wA .u8 16 H),(22,(0,0))),((wA .u8 16 []),(22,(0,0)))]
def sAb8p_h (i:Nat):Hn:=⟨0,[],[],[],[]⟩
def sAb8p_b (a:Array Value) (t:Tq) (H R:List Int) (p r q:Nat) (S:List Int) (n:Nat) (p2:Nat) (i:Nat) (Z:List Int) (j:Nat→Value):List Value:=([j 0,j 1,.slice (some ⟨0,p,none⟩) r q,.pointer (some ⟨1,0,none⟩),.pointer (some ⟨2,0,none⟩),j 5,.pointer (some ⟨3,0,none⟩),.int .i64 ((n:Nat):Int)] ++ (J j 8 24 ++ ([.agg (wA .u8 16 Z),.agg (wA .u8 16 H),.agg (wA .u8 16 (dotL (dL8 (wA .u8 16 Z)) (dL8 (wA .u8 16 H))))] ++ (J j 35 4))))
theorem sAb8p_0 (a:Array Value) (t:Tq) (H R:List Int) (p r q:Nat) (S:List Int) (n:Nat) (p2:Nat) (i:Nat) (Z:List Int) (j:Nat→Value):evC (yty.enf tabW1 1) sAb8p_h (cAt [1,0,0,0,1,0,1,1,0] (bdy Try.f30)) ⟨sAbG_s a t H R p r q S n p2 i Z j,sAbG_m a t H R p r q S n p2 i Z,True,[]⟩=some (.normal,⟨sAb8p_b a t H R p r q S n p2 i Z j,[(a,t),((wA .u8 16 (dotL (dL8 (wA .u8 16 Z)) (dL8 (wA .u8 16 H)))),(22,(0,0))),((wA .u8 16 H),(22,(0,0))),((wA .u8 16 []),(22,(0,0)))],((((True∧True)∧True)∧(((wA .u8 16 Z)=wA .u8 16 (dL8 (wA .u8 16 Z))∧By (dL8 (wA .u8 16 Z)))∧((wA .u8 16 H)=wA .u8 16 (dL8 (wA .u8 16 H))∧By (dL8 (wA .u8 16 H)))))∧((wA .u8 16 (dotL (dL8 (wA .u8 16 Z)) (dL8 (wA .u8 16 H)))).all (fun v=>v.oneCell')=true)),[]⟩):=by kernel_rfl
theorem sAb8 (a:Array Value) (t:Tq) (H R:List Int) (p r q:Nat) (S:List Int) (n:Nat) (p2:Nat) (i:Nat) (Z:List Int) (j:Nat→Value) (hH:By H) (hS:By S) (hb:bytesAt a p r) (hz:p+r≤a.size) (hq:r≤q) (hr:r≤1000000000) (hpos:0<r) (hR:absN H ((r+15) / 16) S (bL a p r)=R) (hn:n=Nat.min 16 r) (hZ:Z=xr S (bL a p r))  {c0:Prop} {ch0:List (Option Value)}:Runs Try.prog (cAt [1,0,0,0,1,0,1,1,0] (bdy Try.f30)) ⟨sAbG_s a t H R p r q S n p2 i Z j,sAbG_m a t H R p r q S n p2 i Z,c0,ch0⟩ (fun e s=>e= .normal∧∃(j:Nat→Value) (c:Prop) (ch:List (Option Value)),((dotL (dL8 (wA .u8 16 Z)) (dL8 (wA .u8 16 H)))=dotL (xr S (bL a p r)) H)∧s=⟨sAbH_s a t H R p r q S n p2 i Z (dotL (dL8 (wA .u8 16 Z)) (dL8 (wA .u8 16 H))) j,sAbH_m a t H R p r q S n p2 i Z (dotL (dL8 (wA .u8 16 Z)) (dL8 (wA .u8 16 H))),c,ch⟩) 1:=by
  refine(runs_ev mixed _ (sAb8p_0 a t H R p r q S n p2 i Z j) ⟨⟨⟨⟨trivial,trivial⟩,trivial⟩,⟨dq (by rw[hZ];exact xr_by _ _),dq hH⟩⟩,(wA_one _ _ _)⟩).mono ?_
  rintro e s ⟨rfl,hs⟩
  refine⟨rfl,fun q=>s.tm.getD q undef,s.c,s.ch,by rw[dotL_w1,dotL_w2,hZ],?_⟩
  subst hs
  kernel_rfl
def sAb9p_h (i:Nat):Hn:=⟨0,[],[],[],[]⟩
def sAb9p_b (a:Array Value) (t:Tq) (H R:List Int) (p r q:Nat) (S:List Int) (n:Nat) (p2:Nat) (i:Nat) (Z:List Int) (V:List Int) (j:Nat→Value):List Value:=([j 0,j 1,.slice (some ⟨0,(if q=n then p else p+n*1),none⟩) (r - n) (q - n),.pointer (some ⟨1,0,none⟩),.pointer (some ⟨2,0,none⟩),j 5,.pointer (some ⟨3,0,none⟩),.int .i64 ((n:Nat):Int)] ++ (J j 8 27 ++ ([.slice (some ⟨0,p,none⟩) r q,.int .i64 ((n:Nat):Int),.slice (some ⟨0,(if q=n then p else p+n*1),none⟩) (r - n) (q - n),j 38])))
theorem sAb9p_0 (a:Array Value) (t:Tq) (H R:List Int) (p r q:Nat) (S:List Int) (n:Nat) (p2:Nat) (i:Nat) (Z:List Int) (V:List Int) (j:Nat→Value):evC (yty.enf tabW1 1) sAb9p_h (cAt [1,0,0,0,1,0,1,1,1] (bdy Try.f30)) ⟨sAbH_s a t H R p r q S n p2 i Z V j,sAbH_m a t H R p r q S n p2 i Z V,True,[]⟩=some (.normal,⟨sAb9p_b a t H R p r q S n p2 i Z V j,[(a,t),((wA .u8 16 V),(22,(0,0))),((wA .u8 16 H),(22,(0,0))),((wA .u8 16 []),(22,(0,0)))],((((True∧True)∧True)∧(((0≤((n:Nat):Int))∧True)∧n≤r∧r≤q))∧True),[]⟩):=by kernel_rfl
theorem sAb9 (a:Array Value) (t:Tq) (H R:List Int) (p r q:Nat) (S:List Int) (n:Nat) (p2:Nat) (i:Nat) (Z:List Int) (V:List Int) (j:Nat→Value) (hH:By H) (hS:By S) (hb:bytesAt a p r) (hz:p+r≤a.size) (hq:r≤q) (hr:r≤1000000000) (hpos:0<r) (hR:absN H ((r+15) / 16) S (bL a p r)=R) (hn:n=Nat.min 16 r) (hV:V=dotL (xr S (bL a p r)) H)  {c0:Prop} {ch0:List (Option Value)}:Runs Try.prog (cAt [1,0,0,0,1,0,1,1,1] (bdy Try.f30)) ⟨sAbH_s a t H R p r q S n p2 i Z V j,sAbH_m a t H R p r q S n p2 i Z V,c0,ch0⟩ (fun e s=>e= .normal∧∃(j:Nat→Value) (c:Prop) (ch:List (Option Value)),(By V)∧(Bk a (some ⟨0,(if q=n then p else p+n*1),none⟩) (r - n) (q - n))∧((r - n)≤1000000000)∧(absN H (((r - n)+15) / 16) V (bO a (some ⟨0,(if q=n then p else p+n*1),none⟩) (r - n))=R)∧s=⟨sAbB_s a t H R (some ⟨0,(if q=n then p else p+n*1),none⟩) (r - n) (q - n) V j,sAbB_m a t H R (some ⟨0,(if q=n then p else p+n*1),none⟩) (r - n) (q - n) V,c,ch⟩) 1:=by
  have hm:n=min 16 r:=hn
  refine(runs_ev mixed _ (sAb9p_0 a t H R p r q S n p2 i Z V j) ⟨⟨⟨⟨trivial,trivial⟩,trivial⟩,(by refine⟨⟨?_,?_⟩,?_,?_⟩<;>first|trivial|omega)⟩,trivial⟩).mono ?_
  rintro e s ⟨rfl,hs⟩
  refine⟨rfl,fun q=>s.tm.getD q undef,s.c,s.ch,by rw[hV];exact dotL_by _ _,⟨by omega,.inr ⟨_,rfl,by
      by_cases h:q=n
      · rw[if_pos h,show r - n=0 by omega];intro j hj;omega
      · rw[if_neg h,Nat.mul_one];exact hb.sub (by omega),by split<;>omega⟩⟩,by omega,by rw[hV];exact abs_step hpos hq hn rfl hR,?_⟩
  subst hs
  kernel_rfl
theorem sAb0a (a:Array Value) (t:Tq) (H R:List Int) (p r q:Nat) (S:List Int) (n:Nat) (p2:Nat) (i:Nat) (Z:List Int) (j:Nat→Value) (hH:By H) (hS:By S) (hb:bytesAt a p r) (hz:p+r≤a.size) (hq:r≤q) (hr:r≤1000000000) (hpos:0<r) (hR:absN H ((r+15) / 16) S (bL a p r)=R) (hn:n=Nat.min 16 r) (hZ:Z=xr S (bL a p r))  {c0:Prop} {ch0:List (Option Value)}:Runs Try.prog (cAt [1,0,0,0,1,0,1,1] (bdy Try.f30)) ⟨sAbG_s a t H R p r q S n p2 i Z j,sAbG_m a t H R p r q S n p2 i Z,c0,ch0⟩ (fun e s=>e= .normal∧∃(j:Nat→Value) (c:Prop) (ch:List (Option Value)),(By (dotL (dL8 (wA .u8 16 Z)) (dL8 (wA .u8 16 H))))∧(Bk a (some ⟨0,(if q=n then p else p+n*1),none⟩) (r - n) (q - n))∧((r - n)≤1000000000)∧(absN H (((r - n)+15) / 16) (dotL (dL8 (wA .u8 16 Z)) (dL8 (wA .u8 16 H))) (bO a (some ⟨0,(if q=n then p else p+n*1),none⟩) (r - n))=R)∧s=⟨sAbB_s a t H R (some ⟨0,(if q=n then p else p+n*1),none⟩) (r - n) (q - n) (dotL (dL8 (wA .u8 16 Z)) (dL8 (wA .u8 16 H))) j,sAbB_m a t H R (some ⟨0,(if q=n then p else p+n*1),none⟩) (r - n) (q - n) (dotL (dL8 (wA .u8 16 Z)) (dL8 (wA .u8 16 H))),c,ch⟩) 1:=by
  rw[show(cAt [1,0,0,0,1,0,1,1] (bdy Try.f30))=(.seq (cAt [1,0,0,0,1,0,1,1,0] (bdy Try.f30)) (cAt [1,0,0,0,1,0,1,1,1] (bdy Try.f30))) from by kernel_rfl]
  refine runs_seq (sAb8 a t H R p r q S n p2 i Z j hH hS hb hz hq hr hpos hR hn hZ ) (fun s hh=> ?_) (fun e s hne hh=>absurd hh.1 hne)
  obtain⟨_,j,c,ch,f0_9,rfl⟩:=hh
  refine(sAb9 a t H R p r q S n p2 i Z (dotL (dL8 (wA .u8 16 Z)) (dL8 (wA .u8 16 H))) j hH hS hb hz hq hr hpos hR hn f0_9 ).mono ?_
  rintro e s ⟨rfl,j,c,ch,f1_1,f1_2,f1_3,f1_4,rfl⟩
  exact⟨rfl,j,c,ch,f1_1,f1_2,f1_3,f1_4,rfl⟩
theorem sAb0b (a:Array Value) (t:Tq) (H R:List Int) (p r q:Nat) (S:List Int) (n:Nat) (j:Nat→Value) (hH:By H) (hS:By S) (hb:bytesAt a p r) (hz:p+r≤a.size) (hq:r≤q) (hr:r≤1000000000) (hpos:0<r) (hR:absN H ((r+15) / 16) S (bL a p r)=R) (hn:n=Nat.min 16 r)  {c0:Prop} {ch0:List (Option Value)}:Runs Try.prog (cAt [1,0,0,0,1,0,1] (bdy Try.f30)) ⟨sAbD_s a t H R p r q S n j,sAbD_m a t H R p r q S n,c0,ch0⟩ (fun e s=>e= .normal∧∃(i10:Nat) (Z10:List Int) (j:Nat→Value) (c:Prop) (ch:List (Option Value)),(By (dotL (dL8 (wA .u8 16 Z10)) (dL8 (wA .u8 16 H))))∧(Bk a (some ⟨0,(if q=n then p else p+n*1),none⟩) (r - n) (q - n))∧((r - n)≤1000000000)∧(absN H (((r - n)+15) / 16) (dotL (dL8 (wA .u8 16 Z10)) (dL8 (wA .u8 16 H))) (bO a (some ⟨0,(if q=n then p else p+n*1),none⟩) (r - n))=R)∧s=⟨sAbB_s a t H R (some ⟨0,(if q=n then p else p+n*1),none⟩) (r - n) (q - n) (dotL (dL8 (wA .u8 16 Z10)) (dL8 (wA .u8 16 H))) j,sAbB_m a t H R (some ⟨0,(if q=n then p else p+n*1),none⟩) (r - n) (q - n) (dotL (dL8 (wA .u8 16 Z10)) (dL8 (wA .u8 16 H))),c,ch⟩) 1:=by
  rw[show(cAt [1,0,0,0,1,0,1] (bdy Try.f30))=(.seq (cAt [1,0,0,0,1,0,1,0] (bdy Try.f30)) (cAt [1,0,0,0,1,0,1,1] (bdy Try.f30))) from by kernel_rfl]
  refine runs_seq (sAb7 a t H R p r q S n j hH hS hb hz hq hr hpos hR hn ) (fun s hh=> ?_) (fun e s hne hh=>absurd hh.1 hne)
  obtain⟨_,i10,Z10,j,c,ch,f0_9,rfl⟩:=hh
  refine(sAb0a a t H R p r q S n (if q=0 then p else p+0*1) i10 Z10 j hH hS hb hz hq hr hpos hR hn f0_9 ).mono ?_
  rintro e s ⟨rfl,j,c,ch,f1_1,f1_2,f1_3,f1_4,rfl⟩
  exact⟨rfl,i10,Z10,j,c,ch,f1_1,f1_2,f1_3,f1_4,rfl⟩
theorem sAb0c (a:Array Value) (t:Tq) (H R:List Int) (p r q:Nat) (S:List Int) (j:Nat→Value) (hH:By H) (hS:By S) (hb:bytesAt a p r) (hz:p+r≤a.size) (hq:r≤q) (hr:r≤1000000000) (hpos:0<r) (hR:absN H ((r+15) / 16) S (bL a p r)=R)  {c0:Prop} {ch0:List (Option Value)}:Runs Try.prog (cAt [1,0,0,0,1,0] (bdy Try.f30)) ⟨sAbC_s a t H R p r q S j,sAbC_m a t H R p r q S,c0,ch0⟩ (fun e s=>e= .normal∧∃(i101:Nat) (Z101:List Int) (j:Nat→Value) (c:Prop) (ch:List (Option Value)),(By (dotL (dL8 (wA .u8 16 Z101)) (dL8 (wA .u8 16 H))))∧(Bk a (some ⟨0,(if q=(Nat.min 16 r) then p else p+(Nat.min 16 r)*1),none⟩) (r - (Nat.min 16 r)) (q - (Nat.min 16 r)))∧((r - (Nat.min 16 r))≤1000000000)∧(absN H (((r - (Nat.min 16 r))+15) / 16) (dotL (dL8 (wA .u8 16 Z101)) (dL8 (wA .u8 16 H))) (bO a (some ⟨0,(if q=(Nat.min 16 r) then p else p+(Nat.min 16 r)*1),none⟩) (r - (Nat.min 16 r)))=R)∧s=⟨sAbB_s a t H R (some ⟨0,(if q=(Nat.min 16 r) then p else p+(Nat.min 16 r)*1),none⟩) (r - (Nat.min 16 r)) (q - (Nat.min 16 r)) (dotL (dL8 (wA .u8 16 Z101)) (dL8 (wA .u8 16 H))) j,sAbB_m a t H R (some ⟨0,(if q=(Nat.min 16 r) then p else p+(Nat.min 16 r)*1),none⟩) (r - (Nat.min 16 r)) (q - (Nat.min 16 r)) (dotL (dL8 (wA .u8 16 Z101)) (dL8 (wA .u8 16 H))),c,ch⟩) 1:=by
  rw[show(cAt [1,0,0,0,1,0] (bdy Try.f30))=(.seq (cAt [1,0,0,0,1,0,0] (bdy Try.f30)) (cAt [1,0,0,0,1,0,1] (bdy Try.f30))) from by kernel_rfl]
  refine runs_seq (sAb2 a t H R p r q S j hH hS hb hz hq hr hpos hR ) (fun s hh=> ?_) (fun e s hne hh=>absurd hh.1 hne)
  obtain⟨_,j,c,ch,f0_8,rfl⟩:=hh
  refine(sAb0b a t H R p r q S (Nat.min 16 r) j hH hS hb hz hq hr hpos hR f0_8 ).mono ?_
  rintro e s ⟨rfl,i101,Z101,j,c,ch,f1_1,f1_2,f1_3,f1_4,rfl⟩
  exact⟨rfl,i101,Z101,j,c,ch,f1_1,f1_2,f1_3,f1_4,rfl⟩
theorem sAb0d (a:Array Value) (t:Tq) (H R:List Int) (p r q:Nat) (S:List Int) (j:Nat→Value) (hH:By H) (hS:By S) (hb:bytesAt a p r) (hz:p+r≤a.size) (hq:r≤q) (hr:r≤1000000000) (hpos:0<r) (hR:absN H ((r+15) / 16) S (bL a p r)=R)  {c0:Prop} {ch0:List (Option Value)}:Runs Try.prog (cAt [1,0,0,0,1] (bdy Try.f30)) ⟨sAbC_s a t H R p r q S j,sAbC_m a t H R p r q S,c0,ch0⟩ (fun e s=>e= .normal∧∃(i101:Nat) (Z101:List Int) (j:Nat→Value) (c:Prop) (ch:List (Option Value)),(By (dotL (dL8 (wA .u8 16 Z101)) (dL8 (wA .u8 16 H))))∧(Bk a (some ⟨0,(if q=(Nat.min 16 r) then p else p+(Nat.min 16 r)*1),none⟩) (r - (Nat.min 16 r)) (q - (Nat.min 16 r)))∧((r - (Nat.min 16 r))≤1000000000)∧(absN H (((r - (Nat.min 16 r))+15) / 16) (dotL (dL8 (wA .u8 16 Z101)) (dL8 (wA .u8 16 H))) (bO a (some ⟨0,(if q=(Nat.min 16 r) then p else p+(Nat.min 16 r)*1),none⟩) (r - (Nat.min 16 r)))=R)∧s=⟨sAbB_s a t H R (some ⟨0,(if q=(Nat.min 16 r) then p else p+(Nat.min 16 r)*1),none⟩) (r - (Nat.min 16 r)) (q - (Nat.min 16 r)) (dotL (dL8 (wA .u8 16 Z101)) (dL8 (wA .u8 16 H))) j,sAbB_m a t H R (some ⟨0,(if q=(Nat.min 16 r) then p else p+(Nat.min 16 r)*1),none⟩) (r - (Nat.min 16 r)) (q - (Nat.min 16 r)) (dotL (dL8 (wA .u8 16 Z101)) (dL8 (wA .u8 16 H))),c,ch⟩) 1:=by
  rw[show(cAt [1,0,0,0,1] (bdy Try.f30))= .block 1 (cAt [1,0,0,0,1,0] (bdy Try.f30)) from by kernel_rfl]
  refine runs_block (sAb0c a t H R p r q S j hH hS hb hz hq hr hpos hR ) ?_
  rintro e s ⟨rfl,hh⟩
  exact .inr (.inl ⟨rfl,rfl,hh⟩)
theorem sAb0e (a:Array Value) (t:Tq) (H R:List Int) (p r q:Nat) (S:List Int) (j:Nat→Value) (hH:By H) (hS:By S) (hb:bytesAt a p r) (hz:p+r≤a.size) (hq:r≤q) (hr:r≤1000000000) (hpos:0<r) (hR:absN H ((r+15) / 16) S (bL a p r)=R)  {c0:Prop} {ch0:List (Option Value)}:Runs Try.prog (cAt [1,0,0,0] (bdy Try.f30)) ⟨sAbC_s a t H R p r q S j,sAbC_m a t H R p r q S,c0,ch0⟩ (fun e s=>e= .normal∧∃(i1011:Nat) (Z1011:List Int) (j:Nat→Value) (c:Prop) (ch:List (Option Value)),(By (dotL (dL8 (wA .u8 16 Z1011)) (dL8 (wA .u8 16 H))))∧(Bk a (some ⟨0,(if q=(Nat.min 16 r) then p else p+(Nat.min 16 r)*1),none⟩) (r - (Nat.min 16 r)) (q - (Nat.min 16 r)))∧((r - (Nat.min 16 r))≤1000000000)∧(absN H (((r - (Nat.min 16 r))+15) / 16) (dotL (dL8 (wA .u8 16 Z1011)) (dL8 (wA .u8 16 H))) (bO a (some ⟨0,(if q=(Nat.min 16 r) then p else p+(Nat.min 16 r)*1),none⟩) (r - (Nat.min 16 r)))=R)∧s=⟨sAbB_s a t H R (some ⟨0,(if q=(Nat.min 16 r) then p else p+(Nat.min 16 r)*1),none⟩) (r - (Nat.min 16 r)) (q - (Nat.min 16 r)) (dotL (dL8 (wA .u8 16 Z1011)) (dL8 (wA .u8 16 H))) j,sAbB_m a t H R (some ⟨0,(if q=(Nat.min 16 r) then p else p+(Nat.min 16 r)*1),none⟩) (r - (Nat.min 16 r)) (q - (Nat.min 16 r)) (dotL (dL8 (wA .u8 16 Z1011)) (dL8 (wA .u8 16 H))),c,ch⟩) 1:=by
  rw[show(cAt [1,0,0,0] (bdy Try.f30))=(.seq (cAt [1,0,0,0,0] (bdy Try.f30)) (cAt [1,0,0,0,1] (bdy Try.f30))) from by kernel_rfl]
  refine runs_seq (sAb1 a t H R p r q S j hH hS hb hz hq hr hpos hR ) (fun s hh=> ?_) (fun e s hne hh=>absurd hh.1 hne)
  obtain⟨_,j,c,ch,rfl⟩:=hh
  refine(sAb0d a t H R p r q S j hH hS hb hz hq hr hpos hR ).mono ?_
  rintro e s ⟨rfl,i1011,Z1011,j,c,ch,f1_1,f1_2,f1_3,f1_4,rfl⟩
  exact⟨rfl,i1011,Z1011,j,c,ch,f1_1,f1_2,f1_3,f1_4,rfl⟩
abbrev sAbI_s (a:Array Value) (t:Tq) (H R:List Int) (bp:Option Addr) (r q:Nat) (S:List Int) (j:Nat→Value):List Value:=(J j 0 3 ++ ([.pointer (some ⟨1,0,none⟩),j 4,j 5,.pointer (some ⟨3,0,none⟩)] ++ (J j 7 32)))
abbrev sAbI_m (a:Array Value) (t:Tq) (H R:List Int) (bp:Option Addr) (r q:Nat) (S:List Int):List Mb:= [(a,t),((wA .u8 16 S),(22,(0,0))),((wA .u8 16 H),(22,(0,0))),((wA .u8 16 []),(22,(0,0)))]
def sAbxp_h (i:Nat):Hn:=⟨0,[],[],[],[]⟩
def sAbxp_b (a:Array Value) (t:Tq) (H R:List Int) (bp:Option Addr) (r q:Nat) (S:List Int) (j:Nat→Value):List Value:=([j 0,j 1,.slice bp r q,.pointer (some ⟨1,0,none⟩),.pointer (some ⟨2,0,none⟩),j 5,.pointer (some ⟨3,0,none⟩)] ++ (J j 7 3 ++ ([.slice bp r q,.int .i64 ((r:Nat):Int),.bool false] ++ (J j 13 26))))
theorem sAbxp_0 (a:Array Value) (t:Tq) (H R:List Int) (bp:Option Addr) (r q:Nat) (S:List Int) (j:Nat→Value):evC (yty.enf tabW1 1) sAbxp_h (cAt [1,0,0,0,0] (bdy Try.f30)) ⟨sAbB_s a t H R bp r q S j,sAbB_m a t H R bp r q S,True,[some (.bool false)]⟩=some ((.exit 0),⟨sAbxp_b a t H R bp r q S j,[(a,t),((wA .u8 16 S),(22,(0,0))),((wA .u8 16 H),(22,(0,0))),((wA .u8 16 []),(22,(0,0)))],(((True∧True)∧True)∧(True∧(decide (0<((r:Nat):Int)))=false)),[]⟩):=by kernel_rfl
theorem sAbx (a:Array Value) (t:Tq) (H R:List Int) (bp:Option Addr) (r q:Nat) (S:List Int) (j:Nat→Value) (hH:By H) (hS:By S) (hb:Bk a bp r q) (hr:r≤1000000000) (hR:absN H ((r+15) / 16) S (bO a bp r)=R) (hge:¬ 0<r) {c0:Prop} {ch0:List (Option Value)}:Runs Try.prog (cAt [1,0,0,0,0] (bdy Try.f30)) ⟨sAbB_s a t H R bp r q S j,sAbB_m a t H R bp r q S,c0,ch0⟩ (fun e s=>e=(.exit 0)∧∃(j:Nat→Value) (c:Prop) (ch:List (Option Value)),(S=R)∧s=⟨sAbI_s a t H R bp r q S j,sAbI_m a t H R bp r q S,c,ch⟩) 1:=by
  have h0:(decide (0<((r:Nat):Int)))=false:=(decide_eq_false (by omega))
  refine(runs_ev mixed _ (sAbxp_0 a t H R bp r q S j) ⟨⟨⟨trivial,trivial⟩,trivial⟩,⟨trivial,h0⟩⟩).mono ?_
  rintro e s ⟨rfl,hs⟩
  refine⟨rfl,fun q=>s.tm.getD q undef,s.c,s.ch,by rw[show r=0 by omega] at hR;exact hR,?_⟩
  subst hs
  kernel_rfl
abbrev sAbJ_s (a:Array Value) (t:Tq) (H R:List Int) (bp:Option Addr) (r q:Nat) (S:List Int) (j:Nat→Value):List Value:=(J j 0 6 ++ ([.pointer (some ⟨3,0,none⟩)] ++ (J j 7 32)))
abbrev sAbJ_m (a:Array Value) (t:Tq) (H R:List Int) (bp:Option Addr) (r q:Nat) (S:List Int):List Mb:= [(a,t),((wA .u8 16 S),(22,(0,0))),((wA .u8 16 H),(22,(0,0))),((wA .u8 16 S),(22,(0,0)))]
def sAbyp_h (i:Nat):Hn:=⟨0,[],[],[],[]⟩
def sAbyp_b (a:Array Value) (t:Tq) (H R:List Int) (bp:Option Addr) (r q:Nat) (S:List Int) (j:Nat→Value):List Value:=(J j 0 3 ++ ([.pointer (some ⟨1,0,none⟩),j 4,j 5,.pointer (some ⟨3,0,none⟩)] ++ (J j 7 31 ++ ([.agg (wA .u8 16 S)]))))
theorem sAbyp_0 (a:Array Value) (t:Tq) (H R:List Int) (bp:Option Addr) (r q:Nat) (S:List Int) (j:Nat→Value):evC (yty.enf tabW1 1) sAbyp_h (cAt [1,1] (bdy Try.f30)) ⟨sAbI_s a t H R bp r q S j,sAbI_m a t H R bp r q S,True,[]⟩=some (.ret,⟨sAbyp_b a t H R bp r q S j,[(a,t),((wA .u8 16 S),(22,(0,0))),((wA .u8 16 H),(22,(0,0))),((wA .u8 16 S),(22,(0,0)))],((True∧True)∧((wA .u8 16 S).all (fun v=>v.oneCell')=true)),[]⟩):=by kernel_rfl
theorem sAby (a:Array Value) (t:Tq) (H R:List Int) (bp:Option Addr) (r q:Nat) (S:List Int) (j:Nat→Value) (hE:S=R)  {c0:Prop} {ch0:List (Option Value)}:Runs Try.prog (cAt [1,1] (bdy Try.f30)) ⟨sAbI_s a t H R bp r q S j,sAbI_m a t H R bp r q S,c0,ch0⟩ (fun e s=>e= .ret∧∃(j:Nat→Value) (c:Prop) (ch:List (Option Value)),s=⟨sAbJ_s a t H R bp r q S j,sAbJ_m a t H R bp r q S,c,ch⟩) 1:=by
  refine(runs_ev mixed _ (sAbyp_0 a t H R bp r q S j) ⟨⟨trivial,trivial⟩,(wA_one _ _ _)⟩).mono ?_
  rintro e s ⟨rfl,hs⟩
  refine⟨rfl,fun q=>s.tm.getD q undef,s.c,s.ch,?_⟩
  subst hs
  kernel_rfl
theorem sAb_loop (a:Array Value) (t:Tq) (H R:List Int) (bp:Option Addr) (r q:Nat) (S:List Int) (j:Nat→Value) (hH:By H) (hS:By S) (hb:Bk a bp r q) (hr:r≤1000000000) (hR:absN H ((r+15) / 16) S (bO a bp r)=R) {c0:Prop} {ch0:List (Option Value)}:Runs Try.prog (cAt [1,0] (bdy Try.f30)) ⟨sAbB_s a t H R bp r q S j,sAbB_m a t H R bp r q S,c0,ch0⟩ (fun e s=>e= .normal∧∃(bp:Option Addr) (r q:Nat) (S:List Int) (j:Nat→Value) (c:Prop) (ch:List (Option Value)),S=R∧s=⟨sAbI_s a t H R bp r q S j,sAbI_m a t H R bp r q S,c,ch⟩) 1:=by
  rw[show(cAt [1,0] (bdy Try.f30))= .block 0 (.loop (cAt [1,0,0,0] (bdy Try.f30))) from by kernel_rfl]
  refine runs_block (K1:=fun e s=>e= .exit 0∧∃(bp:Option Addr) (r q:Nat) (S:List Int) (j:Nat→Value) (c:Prop) (ch:List (Option Value)),S=R∧s=⟨sAbI_s a t H R bp r q S j,sAbI_m a t H R bp r q S,c,ch⟩) ?_ (by rintro e s ⟨rfl,hh⟩;exact .inl ⟨rfl,rfl,hh⟩)
  refine runs_loop (fun M s=>∃(bp:Option Addr) (r q:Nat) (S:List Int) (j:Nat→Value) (c:Prop) (ch:List (Option Value)),By S∧Bk a bp r q∧r≤1000000000∧absN H ((r+15) / 16) S (bO a bp r)=R∧M=r∧s=⟨sAbB_s a t H R bp r q S j,sAbB_m a t H R bp r q S,c,ch⟩) r ⟨bp,r,q,S,j,c0,ch0,hS,hb,hr,hR,rfl,rfl⟩ ?_
  rintro M s ⟨bp,r,q,S,j,c,ch,hS,hb,hr,hR,rfl,rfl⟩
  by_cases hpos:0<M
  · obtain ⟨hq, ⟨_, h0, _⟩ | ⟨p, rfl, hb', hz⟩⟩ := hb
    · omega
    · refine Runs.mono (sAb0e a t H R p M q S j hH hS hb' hz hq hr hpos hR) ?_
      rintro e s ⟨rfl,i,Z,j,c,ch,f1,f2,f3,f4,rfl⟩
      exact .inl ⟨rfl,_,(by have:Nat.min 16 M=min 16 M:=rfl;omega),_,_,_,_,j,c,ch,f1,f2,f3,f4,rfl,rfl⟩
  · rw [show cAt [1, 0, 0, 0] (bdy Try.f30) = .seq (cAt [1, 0, 0, 0, 0] (bdy Try.f30)) (cAt [1, 0, 0, 0, 1] (bdy Try.f30)) from by kernel_rfl]
    refine runs_seq (sAbx a t H R bp M q S j hH hS hb hr hR hpos) (fun s hh=>absurd hh.1 (by simp)) (fun e s hne hh=> ?_)
    obtain⟨rfl,j,c,ch,hE,rfl⟩:=hh
    exact .inr ⟨by simp,rfl,bp,M,q,S,j,c,ch,hE,rfl⟩
theorem bO_len {a:Array Value} {bp:Option Addr} {r q:Nat} (h:Bk a bp r q):(bO a bp r).length=r:=by
  obtain⟨_,⟨rfl,rfl,_⟩|⟨p,rfl,_,_⟩⟩:=h
  · rfl
  · exact bL_len _ _ _
theorem sAb_c (a:Array Value) (t:Tq) (H S:List Int) (bp:Option Addr) (r q:Nat) (hH:By H) (hS:By S) (hb:Bk a bp r q) (hr:r≤1000000000):Reads Try.prog 30 [(a,t)] [.agg (wA .u8 16 S),.agg (wA .u8 16 H),.slice bp r q] (.agg (wA .u8 16 (absL H S (bO a bp r)))):=by
  have ha: [Value.agg (wA .u8 16 S),.agg (wA .u8 16 H),.slice bp r q].all (okp (1%big))=true:=by
    obtain⟨_,⟨rfl,rfl,_⟩|⟨p,rfl,_,_⟩⟩:=hb<;>kernel_rfl
  unfold absL
  rw[bO_len hb,absN_n]
  obtain⟨R,hR⟩:∃ R,absN H ((r+15) / 16) S (bO a bp r)=R:=⟨_,rfl⟩
  rw[hR]
  refine reads_runs (fk:=1) (yty.enf tabW1 1) Try.func30 (c:=bdy Try.f30) (by kernel_rfl) ⟨by rfl,by decide⟩ (args:= [.agg (wA .u8 16 S),.agg (wA .u8 16 H),.slice bp r q]) ha (K:=fun e s=>e= .ret∧resS (yty.enf tabW1 1) s Try.f30.results.toList=some [.agg (wA .u8 16 R)]) ?_ (fun e s h=>⟨h.1,_,h.2,rfl⟩)
  rw[show(bdy Try.f30)= .seq (cAt [0] (bdy Try.f30)) (.seq (cAt [1,0] (bdy Try.f30)) (cAt [1,1] (bdy Try.f30))) from by kernel_rfl]
  refine runs_seq (sAb0 a t H R bp r q S (fun _=>undef) hH hS hb hr hR) (fun s hh=> ?_) (fun e s hne hh=>absurd hh.1 hne)
  obtain⟨_,j,c,ch,rfl⟩:=hh
  refine runs_seq (sAb_loop a t H R bp r q S j hH hS hb hr hR) (fun s hh=> ?_) (fun e s hne hh=>absurd hh.1 hne)
  obtain⟨_,bp',r',q',S',j,c,ch,hE,rfl⟩:=hh
  refine(sAby a t H R bp' r' q' S' j hE).mono ?_
  rintro e s ⟨rfl,j,c,ch,rfl⟩
  rw[← hE]
  exact⟨rfl,by kernel_rfl⟩
def bOf (mem:List Mb) (bp:Option Addr) (r:Nat):List Int:=match bp with
  |some A=>(match mem[A.block]? with|some x=>bL x.1 A.off r|none=> [])
  |none=> []
def BkOk (mem:List Mb) (bp:Option Addr) (r q:Nat):Prop:=r≤q∧((bp=none∧r=0∧q=0)∨∃(i o:Nat) (a:Array Value) (t:Tq),bp=some ⟨i,o,none⟩∧mem[i]? =some (a,t)∧bytesAt a o r∧o+r≤a.size)
theorem BkOk.len {mem:List Mb} {bp:Option Addr} {r q:Nat} (h:BkOk mem bp r q):(bOf mem bp r).length=r:=by
  obtain⟨_,⟨rfl,rfl,_⟩|⟨i,o,a,t,rfl,hm,_,_⟩⟩:=h
  · rfl
  · simp only[bOf,hm,bL_len]
theorem BkOk.app {mem:List Mb} {bp:Option Addr} {r q:Nat} (h:BkOk mem bp r q) (g:List Mb):BkOk (mem ++ g) bp r q∧bOf (mem ++ g) bp r=bOf mem bp r:=by
  obtain⟨hq,⟨rfl,rfl,h0⟩|⟨i,o,a,t,rfl,hm,hb,hz⟩⟩:=h
  · exact⟨⟨hq,.inl ⟨rfl,rfl,h0⟩⟩,rfl⟩
  · have hm' : (mem ++ g)[i]? = some (a, t) := by rw [List.getElem?_append_left (List.getElem?_eq_some_iff.1 hm).1]; exact hm
    exact⟨⟨hq,.inr ⟨i,o,a,t,rfl,hm',hb,hz⟩⟩,by simp only[bOf,hm,hm']⟩
theorem BkOk.two {m1 m2:Mb} {bp:Option Addr} {r q:Nat} (h:BkOk [m1,m2] bp r q) {g:List Mb}:BkOk (m1 :: m2 :: g) bp r q∧bOf (m1 :: m2 :: g) bp r=bOf [m1,m2] bp r:=h.app g
theorem bytes_w {n:Nat} {L:List Int} (h:By L):bytesAt (wA .u8 n L) 0 n:=fun j hj=>by
  have e:iat (wA .u8 n L) (0+j)=L.getD j 0:=by
    unfold iat
    rw[Nat.zero_add,wA_at hj]
  rw[e,Nat.zero_add]
  exact⟨wA_at hj,h j⟩
def pab : Entry Try.prog where
  f:=30
  g := fun mem xs => match mem, xs with
    |m :: g,[.agg s,.agg h,.slice bp r q]=>some (.agg (wA .u8 16 (absL (dL8 h) (dL8 s) (bOf (m :: g) bp r))),(((s=wA .u8 16 (dL8 s)∧By (dL8 s))∧(h=wA .u8 16 (dL8 h)∧By (dL8 h)))∧BkOk (m :: g) bp r q∧r≤1000000000))
    |_,_=>none
  ok := fun mem xs v c e hc w β hw _ => by
    split at e
    · rename_i m g s h bp r q
      simp only[Option.some.injEq,Prod.mk.injEq] at e
      obtain⟨rfl,rfl⟩:=e
      obtain⟨⟨⟨h1,h2⟩,h3,h4⟩,⟨hq,hb⟩,hr⟩:=hc
      rcases hb with⟨rfl,rfl,rfl⟩|⟨i,o,a,t,rfl,hm,hb,hz⟩
      · have := sAb_c m.1 m.2 (dL8 h) (dL8 s) none 0 0 h4 h2 ⟨hq, .inl ⟨rfl, rfl, rfl⟩⟩ hr w β (fun i x hx => by
          match i,hx with
          | 0, hx =>
            simp only[List.getElem?_cons_zero,Option.some.injEq] at hx
            subst hx
            exact hw 0 _ rfl
          |q+1,hx=>simp at hx) (fun i hi=>by omega)
        rw[← h1,← h3] at this
        exact this
      · have := sAb_c a t (dL8 h) (dL8 s) (some ⟨0, o, none⟩) r q h4 h2 ⟨hq, .inr ⟨o, rfl, hb, hz⟩⟩ hr w (fun _ => β i) (fun k x hx => by
          match k,hx with
          | 0, hx =>
            simp only[List.getElem?_cons_zero,Option.some.injEq] at hx
            subst hx
            exact hw i _ hm
          |q+1,hx=>simp at hx) (fun i hi=>by omega)
        rw[← h1,← h3] at this
        simp only[bOf,hm]
        exact this
    · cases e
  call:=call_of Try.func30 (by kernel_rfl) (by kernel_rfl)
def sLe_h (i:Nat):Hn:=⟨0,[],[],[],[]⟩
def sLe_a (l1 l2:Nat):List Value:=([.int .i64 ((l1:Nat):Int),.int .i64 ((l2:Nat):Int)] ++ (JU 10))
def sLe_b (l1 l2:Nat):List Value:=([.int .i64 ((l1:Nat):Int),.int .i64 ((l2:Nat):Int),undef,undef,.pointer (some ⟨0,0,none⟩),.int .i64 ((l1:Nat):Int),.int .u64 ((l1:Nat):Int),.int .u64 ((8*l1:Nat):Int),.int .i64 ((l2:Nat):Int),.int .u64 ((l2:Nat):Int),.int .u64 ((8*l2:Nat):Int),.agg (wA .u8 16 (jnL ((8*l1:Nat):Int) ((8*l2:Nat):Int)))])
theorem sLe_0 (l1 l2:Nat):evC (yty.en tabW1) sLe_h (cAt [] (bdy Try.f44)) ⟨sLe_a l1 l2,[],True,[some (.int .u64 ((l1:Nat):Int)),some (.int .u64 ((8*l1:Nat):Int)),some (.int .u64 ((l2:Nat):Int)),some (.int .u64 ((8*l2:Nat):Int))]⟩=some (.ret,⟨sLe_b l1 l2,[((wA .u8 16 (jnL ((8*l1:Nat):Int) ((8*l2:Nat):Int))),(22,(0,0)))],((((((((True∧True)∧(True∧(IntKind.u64.wrap ((l1:Nat):Int))=((l1:Nat):Int)))∧(True∧(IntKind.u64.wrap (8*((l1:Nat):Int)))=((8*l1:Nat):Int)))∧True)∧(True∧(IntKind.u64.wrap ((l2:Nat):Int))=((l2:Nat):Int)))∧(True∧(IntKind.u64.wrap (8*((l2:Nat):Int)))=((8*l2:Nat):Int)))∧((IntKind.u64=IntKind.u64∧IntKind.u64=IntKind.u64)∧True))∧((wA .u8 16 (jnL ((8*l1:Nat):Int) ((8*l2:Nat):Int))).all (fun v=>v.oneCell')=true)),[]⟩):=by kernel_rfl
theorem sLe_c (l1 l2:Nat) (h1:l1≤1000000000) (h2:l2≤1000000000):Pure Try.prog 44 #[.int .i64 ((l1:Nat):Int),.int .i64 ((l2:Nat):Int)] (.agg (wA .u8 16 (jnL ((8*l1:Nat):Int) ((8*l2:Nat):Int)))):=by
  refine pure_runs (E:=(yty.en tabW1)) Try.func44 (c:=bdy Try.f44) (by kernel_rfl) (args:= [.int .i64 ((l1:Nat):Int),.int .i64 ((l2:Nat):Int)]) (by kernel_rfl) (K:=fun e s=>e= .ret∧resS (yty.en tabW1) s Try.f44.results.toList=some [.agg (wA .u8 16 (jnL ((8*l1:Nat):Int) ((8*l2:Nat):Int)))]) ?_ (fun e s h=>⟨h.1,_,h.2,rfl⟩)
  refine(runs_ev mixed _ (sLe_0 l1 l2) ⟨⟨⟨⟨⟨⟨⟨⟨trivial,trivial⟩,⟨trivial,(by rw[IntKind.wrap_u64];omega)⟩⟩,⟨trivial,(by rw[IntKind.wrap_u64];omega)⟩⟩,trivial⟩,⟨trivial,(by rw[IntKind.wrap_u64];omega)⟩⟩,⟨trivial,(by rw[IntKind.wrap_u64];omega)⟩⟩,⟨⟨rfl,rfl⟩,trivial⟩⟩,wA_one _ _ _⟩).mono ?_
  rintro e s ⟨rfl,rfl⟩
  exact⟨rfl,by kernel_rfl⟩
def ple:Entry Try.prog:=ent2C Try.func44 (by kernel_rfl) (by kernel_rfl) (fun x y=> .agg (wA .u8 16 (jnL ((8*x.toNat:Nat):Int) ((8*y.toNat:Nat):Int)))) (fun x y=>(0≤x∧x≤1000000000)∧0≤y∧y≤1000000000) (k:= .i64) (k':= .i64) (fun x y h=>by
  have:=sLe_c x.toNat y.toNat (by omega) (by omega)
  rwa[show((x.toNat:Nat):Int)=x by omega,show((y.toNat:Nat):Int)=y by omega] at this)
def tabW2:List (Entry Try.prog):=ple :: pab :: tabW1
end Go.Proofs.Ytnadkbniljejfaa

set_option linter.unusedSimpArgs false
set_option linter.unusedVariables false
/-! siv: the tag. -/
namespace Go.Proofs.Ytnadkbniljejfaa
open Go.RowKit Go.Ev
def xrv (V N:List Int) (i:Nat):List Int:=(List.range 16).map fun k=>if k<i then bits .xor .u8 (V.getD k 0) (N.getD k 0) else V.getD k 0
theorem xrv_0 (V N:List Int):wA .u8 16 V=wA .u8 16 (xrv V N 0):=by
  refine wA_ext (wA_size _ _ _) (fun i hi=> ?_)
  unfold xrv
  rw[wA_at hi,ofFn_at hi,if_neg (by omega)]
theorem xrv_by {V N:List Int} {i:Nat} (h:By V):By (xrv V N i):=by_ofFn fun k _=>by
  split
  · exact xb _ _ _
  · exact h _
theorem xrv_step {V N Z:List Int} {i:Nat} (hi:i<16) (hZ:Z=xrv V N i):lset 16 Z i (bits .xor .u8 (Z.getD i 0) (N.getD i 0))=xrv V N (i+1):=by
  subst hZ
  unfold lset
  refine List.map_congr_left fun k hk=> ?_
  have hk:k<16:=by simpa using hk
  by_cases e:k=i
  · subst e
    unfold xrv
    rw[if_pos rfl,if_pos (by omega),ofFn_at hk,if_neg (by omega)]
  · rw [if_neg e]
    unfold xrv
    rw[ofFn_at hk]
    by_cases h:k<i
    · rw[if_pos h,if_pos (by omega)]
    · rw[if_neg h,if_neg (by omega)]
theorem iv12 {N:List Int} {i:Nat} (h:i<12):intOf ((wA .u8 12 N).getD (Int.toNat ((i:Nat):Int)) undef)=N.getD i 0:=by
  rw[Int.toNat_natCast,Array.getD_eq_getD_getElem?,wA_at h];rfl
theorem ix12 {N:List Int} {i:Nat} (h:i<12):(0≤((i:Nat):Int)∧((i:Nat):Int)<((12:Nat):Int))∧(wA .u8 12 N)[Int.toNat ((i:Nat):Int)]? =some (.int .u8 (intOf ((wA .u8 12 N).getD (Int.toNat ((i:Nat):Int)) undef))):=by
  refine⟨⟨by omega,by omega⟩,?_⟩
  rw[iv12 h,Int.toNat_natCast,wA_at h]
def cutL (Z:List Int):List Int:=lset 16 Z 15 (bits .andNot .u8 (Z.getD 15 0) 128)
theorem lset_by {n p:Nat} {L:List Int} {x:Int} (h:By L) (hx:0≤x∧x<256):By (lset n L p x):=by_ofFn fun k _=>by
  split
  · exact hx
  · exact h _
def tsL (HB A X:List Int):List Int:=absL HB (absL HB (absL HB [] A) X) (jnL ((8*A.length:Nat):Int) ((8*X.length:Nat):Int))
def tagL (HB TK N A X:List Int):List Int:=encL TK (cutL (xrv (tsL HB A X) N 12))
abbrev sTgA_s (HB TK N A X:List Int) (a1 a2:Array Value) (t1 t2:Tq) (b1 b2:Option Addr) (l1 c1 l2 c2:Nat) (j:Nat→Value):List Value:=([.agg (wA .u8 16 HB),.agg (wA .u8 32 TK),.agg (wA .u8 12 N),.slice b1 l1 c1,.slice b2 l2 c2] ++ (JU 46))
abbrev sTgA_m (HB TK N A X:List Int) (a1 a2:Array Value) (t1 t2:Tq) (b1 b2:Option Addr) (l1 c1 l2 c2:Nat):List Mb:= [(a1,t1),(a2,t2)]
abbrev sTgB_s (HB TK N A X:List Int) (a1 a2:Array Value) (t1 t2:Tq) (b1 b2:Option Addr) (l1 c1 l2 c2:Nat) (j:Nat→Value):List Value:=(J j 0 3 ++ ([.slice b1 l1 c1,.slice b2 l2 c2,.pointer (some ⟨2,0,none⟩),.pointer (some ⟨3,0,none⟩),.pointer (some ⟨4,0,none⟩),j 8,j 9,.pointer (some ⟨5,0,none⟩)] ++ (J j 11 40)))
abbrev sTgB_m (HB TK N A X:List Int) (a1 a2:Array Value) (t1 t2:Tq) (b1 b2:Option Addr) (l1 c1 l2 c2:Nat):List Mb:= [(a1,t1),(a2,t2),((wA .u8 16 HB),(22,(0,0))),((wA .u8 32 TK),(27,(0,0))),((wA .u8 12 N),(28,(0,0))),((wA .u8 16 []),(22,(0,0)))]
def sTg0p_h (i:Nat):Hn:=if i=4 then⟨4,[],[],[],[]⟩ else⟨0,[],[],[],[]⟩
def sTg0p_b (HB TK N A X:List Int) (a1 a2:Array Value) (t1 t2:Tq) (b1 b2:Option Addr) (l1 c1 l2 c2:Nat) (j:Nat→Value):List Value:=([.agg (wA .u8 16 HB),.agg (wA .u8 32 TK),.agg (wA .u8 12 N),.slice b1 l1 c1,.slice b2 l2 c2,.pointer (some ⟨2,0,none⟩),.pointer (some ⟨3,0,none⟩),.pointer (some ⟨4,0,none⟩),undef,undef,.pointer (some ⟨5,0,none⟩)] ++ (JU 40))
theorem sTg0p_0 (HB TK N A X:List Int) (a1 a2:Array Value) (t1 t2:Tq) (b1 b2:Option Addr) (l1 c1 l2 c2:Nat) (j:Nat→Value):evC (yty.enf tabW2 2) sTg0p_h (cAt [0] (bdy Try.f35)) ⟨sTgA_s HB TK N A X a1 a2 t1 t2 b1 b2 l1 c1 l2 c2 j,sTgA_m HB TK N A X a1 a2 t1 t2 b1 b2 l1 c1 l2 c2,True,[]⟩=some (.normal,⟨sTg0p_b HB TK N A X a1 a2 t1 t2 b1 b2 l1 c1 l2 c2 j,[(a1,t1),(a2,t2),((wA .u8 16 HB),(22,(0,0))),((wA .u8 32 TK),(27,(0,0))),((wA .u8 12 N),(28,(0,0))),((wA .u8 16 []),(22,(0,0)))],True,[]⟩):=by kernel_rfl
theorem sTg0 (HB TK N A X:List Int) (a1 a2:Array Value) (t1 t2:Tq) (b1 b2:Option Addr) (l1 c1 l2 c2:Nat) (j:Nat→Value) (hH:By HB) (hK:By TK) (hN:By N) (hb1:BkOk [(a1,t1),(a2,t2)] b1 l1 c1) (hA:bOf [(a1,t1),(a2,t2)] b1 l1=A) (hb2:BkOk [(a1,t1),(a2,t2)] b2 l2 c2) (hX:bOf [(a1,t1),(a2,t2)] b2 l2=X) (hl:l1≤1000000000∧l2≤1000000000)  {c0:Prop} {ch0:List (Option Value)}:Runs Try.prog (cAt [0] (bdy Try.f35)) ⟨sTgA_s HB TK N A X a1 a2 t1 t2 b1 b2 l1 c1 l2 c2 j,sTgA_m HB TK N A X a1 a2 t1 t2 b1 b2 l1 c1 l2 c2,c0,ch0⟩ (fun e s=>e= .normal∧∃(j:Nat→Value) (c:Prop) (ch:List (Option Value)),s=⟨sTgB_s HB TK N A X a1 a2 t1 t2 b1 b2 l1 c1 l2 c2 j,sTgB_m HB TK N A X a1 a2 t1 t2 b1 b2 l1 c1 l2 c2,c,ch⟩) 2:=by
  refine(runs_ev mixed _ (sTg0p_0 HB TK N A X a1 a2 t1 t2 b1 b2 l1 c1 l2 c2 j) trivial).mono ?_
  rintro e s ⟨rfl,hs⟩
  refine⟨rfl,fun q=>s.tm.getD q undef,s.c,s.ch,?_⟩
  subst hs
  kernel_rfl
abbrev sTgC_s (HB TK N A X:List Int) (a1 a2:Array Value) (t1 t2:Tq) (b1 b2:Option Addr) (l1 c1 l2 c2:Nat) (V:List Int) (j:Nat→Value):List Value:=(J j 0 3 ++ ([.slice b1 l1 c1,.slice b2 l2 c2,.pointer (some ⟨2,0,none⟩),.pointer (some ⟨3,0,none⟩),.pointer (some ⟨4,0,none⟩),j 8,j 9,.pointer (some ⟨5,0,none⟩),.pointer (some ⟨6,0,none⟩)] ++ (J j 12 39)))
abbrev sTgC_m (HB TK N A X:List Int) (a1 a2:Array Value) (t1 t2:Tq) (b1 b2:Option Addr) (l1 c1 l2 c2:Nat) (V:List Int):List Mb:= [(a1,t1),(a2,t2),((wA .u8 16 HB),(22,(0,0))),((wA .u8 32 TK),(27,(0,0))),((wA .u8 12 N),(28,(0,0))),((wA .u8 16 []),(22,(0,0))),((wA .u8 16 V),(22,(0,0)))]
def sTg1p_h (i:Nat):Hn:=if i=4 then⟨4,[],[],[],[]⟩ else⟨0,[],[],[],[]⟩
def sTg1p_b (HB TK N A X:List Int) (a1 a2:Array Value) (t1 t2:Tq) (b1 b2:Option Addr) (l1 c1 l2 c2:Nat) (j:Nat→Value):List Value:=(J j 0 3 ++ ([.slice b1 l1 c1,.slice b2 l2 c2,.pointer (some ⟨2,0,none⟩),.pointer (some ⟨3,0,none⟩),.pointer (some ⟨4,0,none⟩),j 8,j 9,.pointer (some ⟨5,0,none⟩),.pointer (some ⟨6,0,none⟩)] ++ (J j 12 3 ++ ([.agg (wA .u8 16 []),.agg (wA .u8 16 HB),.slice b1 l1 c1,.agg (wA .u8 16 (absL (dL8 (wA .u8 16 HB)) (dL8 (wA .u8 16 [])) (bOf [(a1,t1),(a2,t2),((wA .u8 16 HB),(22,(0,0))),((wA .u8 32 TK),(27,(0,0))),((wA .u8 12 N),(28,(0,0))),((wA .u8 16 []),(22,(0,0)))] b1 l1)))] ++ (J j 19 32)))))
theorem sTg1p_0 (HB TK N A X:List Int) (a1 a2:Array Value) (t1 t2:Tq) (b1 b2:Option Addr) (l1 c1 l2 c2:Nat) (j:Nat→Value):evC (yty.enf tabW2 2) sTg1p_h (cAt [1,0] (bdy Try.f35)) ⟨sTgB_s HB TK N A X a1 a2 t1 t2 b1 b2 l1 c1 l2 c2 j,sTgB_m HB TK N A X a1 a2 t1 t2 b1 b2 l1 c1 l2 c2,True,[]⟩=some (.normal,⟨sTg1p_b HB TK N A X a1 a2 t1 t2 b1 b2 l1 c1 l2 c2 j,[(a1,t1),(a2,t2),((wA .u8 16 HB),(22,(0,0))),((wA .u8 32 TK),(27,(0,0))),((wA .u8 12 N),(28,(0,0))),((wA .u8 16 []),(22,(0,0))),((wA .u8 16 (absL (dL8 (wA .u8 16 HB)) (dL8 (wA .u8 16 [])) (bOf [(a1,t1),(a2,t2),((wA .u8 16 HB),(22,(0,0))),((wA .u8 32 TK),(27,(0,0))),((wA .u8 12 N),(28,(0,0))),((wA .u8 16 []),(22,(0,0)))] b1 l1))),(22,(0,0)))],(((((True∧True)∧True)∧True)∧((((wA .u8 16 [])=wA .u8 16 (dL8 (wA .u8 16 []))∧By (dL8 (wA .u8 16 [])))∧((wA .u8 16 HB)=wA .u8 16 (dL8 (wA .u8 16 HB))∧By (dL8 (wA .u8 16 HB))))∧BkOk [(a1,t1),(a2,t2),((wA .u8 16 HB),(22,(0,0))),((wA .u8 32 TK),(27,(0,0))),((wA .u8 12 N),(28,(0,0))),((wA .u8 16 []),(22,(0,0)))] b1 l1 c1∧l1≤1000000000))∧((wA .u8 16 (absL (dL8 (wA .u8 16 HB)) (dL8 (wA .u8 16 [])) (bOf [(a1,t1),(a2,t2),((wA .u8 16 HB),(22,(0,0))),((wA .u8 32 TK),(27,(0,0))),((wA .u8 12 N),(28,(0,0))),((wA .u8 16 []),(22,(0,0)))] b1 l1))).all (fun v=>v.oneCell')=true)),[]⟩):=by kernel_rfl
theorem sTg1 (HB TK N A X:List Int) (a1 a2:Array Value) (t1 t2:Tq) (b1 b2:Option Addr) (l1 c1 l2 c2:Nat) (j:Nat→Value) (hH:By HB) (hK:By TK) (hN:By N) (hb1:BkOk [(a1,t1),(a2,t2)] b1 l1 c1) (hA:bOf [(a1,t1),(a2,t2)] b1 l1=A) (hb2:BkOk [(a1,t1),(a2,t2)] b2 l2 c2) (hX:bOf [(a1,t1),(a2,t2)] b2 l2=X) (hl:l1≤1000000000∧l2≤1000000000)  {c0:Prop} {ch0:List (Option Value)}:Runs Try.prog (cAt [1,0] (bdy Try.f35)) ⟨sTgB_s HB TK N A X a1 a2 t1 t2 b1 b2 l1 c1 l2 c2 j,sTgB_m HB TK N A X a1 a2 t1 t2 b1 b2 l1 c1 l2 c2,c0,ch0⟩ (fun e s=>e= .normal∧∃(j:Nat→Value) (c:Prop) (ch:List (Option Value)),((absL (dL8 (wA .u8 16 HB)) (dL8 (wA .u8 16 [])) (bOf [(a1,t1),(a2,t2),((wA .u8 16 HB),(22,(0,0))),((wA .u8 32 TK),(27,(0,0))),((wA .u8 12 N),(28,(0,0))),((wA .u8 16 []),(22,(0,0)))] b1 l1))=absL HB [] A)∧s=⟨sTgC_s HB TK N A X a1 a2 t1 t2 b1 b2 l1 c1 l2 c2 (absL (dL8 (wA .u8 16 HB)) (dL8 (wA .u8 16 [])) (bOf [(a1,t1),(a2,t2),((wA .u8 16 HB),(22,(0,0))),((wA .u8 32 TK),(27,(0,0))),((wA .u8 12 N),(28,(0,0))),((wA .u8 16 []),(22,(0,0)))] b1 l1)) j,sTgC_m HB TK N A X a1 a2 t1 t2 b1 b2 l1 c1 l2 c2 (absL (dL8 (wA .u8 16 HB)) (dL8 (wA .u8 16 [])) (bOf [(a1,t1),(a2,t2),((wA .u8 16 HB),(22,(0,0))),((wA .u8 32 TK),(27,(0,0))),((wA .u8 12 N),(28,(0,0))),((wA .u8 16 []),(22,(0,0)))] b1 l1)),c,ch⟩) 2:=by
  refine(runs_ev mixed _ (sTg1p_0 HB TK N A X a1 a2 t1 t2 b1 b2 l1 c1 l2 c2 j) ⟨⟨⟨⟨⟨trivial,trivial⟩,trivial⟩,trivial⟩,⟨⟨dq by_nil,dq hH⟩,hb1.two.1,hl.1⟩⟩,(wA_one _ _ _)⟩).mono ?_
  rintro e s ⟨rfl,hs⟩
  refine⟨rfl,fun q=>s.tm.getD q undef,s.c,s.ch,by rw[absL_w,hb1.two.2,hA],?_⟩
  subst hs
  kernel_rfl
abbrev sTgD_s (HB TK N A X:List Int) (a1 a2:Array Value) (t1 t2:Tq) (b1 b2:Option Addr) (l1 c1 l2 c2:Nat) (V W:List Int) (j:Nat→Value):List Value:=(J j 0 3 ++ ([.slice b1 l1 c1,.slice b2 l2 c2,.pointer (some ⟨2,0,none⟩),.pointer (some ⟨3,0,none⟩),.pointer (some ⟨4,0,none⟩),j 8,j 9,.pointer (some ⟨5,0,none⟩),.pointer (some ⟨6,0,none⟩)] ++ (J j 12 39)))
abbrev sTgD_m (HB TK N A X:List Int) (a1 a2:Array Value) (t1 t2:Tq) (b1 b2:Option Addr) (l1 c1 l2 c2:Nat) (V W:List Int):List Mb:= [(a1,t1),(a2,t2),((wA .u8 16 HB),(22,(0,0))),((wA .u8 32 TK),(27,(0,0))),((wA .u8 12 N),(28,(0,0))),((wA .u8 16 []),(22,(0,0))),((wA .u8 16 W),(22,(0,0)))]
def sTg2p_h (i:Nat):Hn:=if i=4 then⟨4,[],[],[],[]⟩ else⟨0,[],[],[],[]⟩
def sTg2p_b (HB TK N A X:List Int) (a1 a2:Array Value) (t1 t2:Tq) (b1 b2:Option Addr) (l1 c1 l2 c2:Nat) (V:List Int) (j:Nat→Value):List Value:=(J j 0 3 ++ ([.slice b1 l1 c1,.slice b2 l2 c2,.pointer (some ⟨2,0,none⟩),.pointer (some ⟨3,0,none⟩),.pointer (some ⟨4,0,none⟩),j 8,j 9,.pointer (some ⟨5,0,none⟩),.pointer (some ⟨6,0,none⟩)] ++ (J j 12 7 ++ ([.agg (wA .u8 16 V),.agg (wA .u8 16 HB),.slice b2 l2 c2,.agg (wA .u8 16 (absL (dL8 (wA .u8 16 HB)) (dL8 (wA .u8 16 V)) (bOf [(a1,t1),(a2,t2),((wA .u8 16 HB),(22,(0,0))),((wA .u8 32 TK),(27,(0,0))),((wA .u8 12 N),(28,(0,0))),((wA .u8 16 []),(22,(0,0))),((wA .u8 16 V),(22,(0,0)))] b2 l2)))] ++ (J j 23 28)))))
theorem sTg2p_0 (HB TK N A X:List Int) (a1 a2:Array Value) (t1 t2:Tq) (b1 b2:Option Addr) (l1 c1 l2 c2:Nat) (V:List Int) (j:Nat→Value):evC (yty.enf tabW2 2) sTg2p_h (cAt [1,1,0] (bdy Try.f35)) ⟨sTgC_s HB TK N A X a1 a2 t1 t2 b1 b2 l1 c1 l2 c2 V j,sTgC_m HB TK N A X a1 a2 t1 t2 b1 b2 l1 c1 l2 c2 V,True,[]⟩=some (.normal,⟨sTg2p_b HB TK N A X a1 a2 t1 t2 b1 b2 l1 c1 l2 c2 V j,[(a1,t1),(a2,t2),((wA .u8 16 HB),(22,(0,0))),((wA .u8 32 TK),(27,(0,0))),((wA .u8 12 N),(28,(0,0))),((wA .u8 16 []),(22,(0,0))),((wA .u8 16 (absL (dL8 (wA .u8 16 HB)) (dL8 (wA .u8 16 V)) (bOf [(a1,t1),(a2,t2),((wA .u8 16 HB),(22,(0,0))),((wA .u8 32 TK),(27,(0,0))),((wA .u8 12 N),(28,(0,0))),((wA .u8 16 []),(22,(0,0))),((wA .u8 16 V),(22,(0,0)))] b2 l2))),(22,(0,0)))],(((((True∧True)∧True)∧True)∧((((wA .u8 16 V)=wA .u8 16 (dL8 (wA .u8 16 V))∧By (dL8 (wA .u8 16 V)))∧((wA .u8 16 HB)=wA .u8 16 (dL8 (wA .u8 16 HB))∧By (dL8 (wA .u8 16 HB))))∧BkOk [(a1,t1),(a2,t2),((wA .u8 16 HB),(22,(0,0))),((wA .u8 32 TK),(27,(0,0))),((wA .u8 12 N),(28,(0,0))),((wA .u8 16 []),(22,(0,0))),((wA .u8 16 V),(22,(0,0)))] b2 l2 c2∧l2≤1000000000))∧((wA .u8 16 (absL (dL8 (wA .u8 16 HB)) (dL8 (wA .u8 16 V)) (bOf [(a1,t1),(a2,t2),((wA .u8 16 HB),(22,(0,0))),((wA .u8 32 TK),(27,(0,0))),((wA .u8 12 N),(28,(0,0))),((wA .u8 16 []),(22,(0,0))),((wA .u8 16 V),(22,(0,0)))] b2 l2))).all (fun v=>v.oneCell')=true)),[]⟩):=by kernel_rfl
theorem sTg2 (HB TK N A X:List Int) (a1 a2:Array Value) (t1 t2:Tq) (b1 b2:Option Addr) (l1 c1 l2 c2:Nat) (V:List Int) (j:Nat→Value) (hH:By HB) (hK:By TK) (hN:By N) (hb1:BkOk [(a1,t1),(a2,t2)] b1 l1 c1) (hA:bOf [(a1,t1),(a2,t2)] b1 l1=A) (hb2:BkOk [(a1,t1),(a2,t2)] b2 l2 c2) (hX:bOf [(a1,t1),(a2,t2)] b2 l2=X) (hl:l1≤1000000000∧l2≤1000000000) (hV:V=absL HB [] A)  {c0:Prop} {ch0:List (Option Value)}:Runs Try.prog (cAt [1,1,0] (bdy Try.f35)) ⟨sTgC_s HB TK N A X a1 a2 t1 t2 b1 b2 l1 c1 l2 c2 V j,sTgC_m HB TK N A X a1 a2 t1 t2 b1 b2 l1 c1 l2 c2 V,c0,ch0⟩ (fun e s=>e= .normal∧∃(j:Nat→Value) (c:Prop) (ch:List (Option Value)),((absL (dL8 (wA .u8 16 HB)) (dL8 (wA .u8 16 V)) (bOf [(a1,t1),(a2,t2),((wA .u8 16 HB),(22,(0,0))),((wA .u8 32 TK),(27,(0,0))),((wA .u8 12 N),(28,(0,0))),((wA .u8 16 []),(22,(0,0))),((wA .u8 16 V),(22,(0,0)))] b2 l2))=absL HB V X)∧s=⟨sTgD_s HB TK N A X a1 a2 t1 t2 b1 b2 l1 c1 l2 c2 V (absL (dL8 (wA .u8 16 HB)) (dL8 (wA .u8 16 V)) (bOf [(a1,t1),(a2,t2),((wA .u8 16 HB),(22,(0,0))),((wA .u8 32 TK),(27,(0,0))),((wA .u8 12 N),(28,(0,0))),((wA .u8 16 []),(22,(0,0))),((wA .u8 16 V),(22,(0,0)))] b2 l2)) j,sTgD_m HB TK N A X a1 a2 t1 t2 b1 b2 l1 c1 l2 c2 V (absL (dL8 (wA .u8 16 HB)) (dL8 (wA .u8 16 V)) (bOf [(a1,t1),(a2,t2),((wA .u8 16 HB),(22,(0,0))),((wA .u8 32 TK),(27,(0,0))),((wA .u8 12 N),(28,(0,0))),((wA .u8 16 []),(22,(0,0))),((wA .u8 16 V),(22,(0,0)))] b2 l2)),c,ch⟩) 2:=by
  refine(runs_ev mixed _ (sTg2p_0 HB TK N A X a1 a2 t1 t2 b1 b2 l1 c1 l2 c2 V j) ⟨⟨⟨⟨⟨trivial,trivial⟩,trivial⟩,trivial⟩,⟨⟨dq (by rw[hV];exact absL_by by_nil),dq hH⟩,hb2.two.1,hl.2⟩⟩,(wA_one _ _ _)⟩).mono ?_
  rintro e s ⟨rfl,hs⟩
  refine⟨rfl,fun q=>s.tm.getD q undef,s.c,s.ch,by rw[absL_w,hb2.two.2,hX],?_⟩
  subst hs
  kernel_rfl
abbrev sTgE_s (HB TK N A X:List Int) (a1 a2:Array Value) (t1 t2:Tq) (b1 b2:Option Addr) (l1 c1 l2 c2:Nat) (V W:List Int) (j:Nat→Value):List Value:=(J j 0 3 ++ ([.slice b1 l1 c1,.slice b2 l2 c2,.pointer (some ⟨2,0,none⟩),.pointer (some ⟨3,0,none⟩),.pointer (some ⟨4,0,none⟩),j 8,j 9,.pointer (some ⟨5,0,none⟩),.pointer (some ⟨6,0,none⟩),.pointer (some ⟨7,0,none⟩)] ++ (J j 13 38)))
abbrev sTgE_m (HB TK N A X:List Int) (a1 a2:Array Value) (t1 t2:Tq) (b1 b2:Option Addr) (l1 c1 l2 c2:Nat) (V W:List Int):List Mb:= [(a1,t1),(a2,t2),((wA .u8 16 HB),(22,(0,0))),((wA .u8 32 TK),(27,(0,0))),((wA .u8 12 N),(28,(0,0))),((wA .u8 16 []),(22,(0,0))),((wA .u8 16 W),(22,(0,0))),((wA .u8 16 (jnL ((8*l1:Nat):Int) ((8*l2:Nat):Int))),(22,(0,0)))]
def sTg3p_h (i:Nat):Hn:=if i=4 then⟨4,[],[],[],[]⟩ else⟨0,[],[],[],[]⟩
def sTg3p_b (HB TK N A X:List Int) (a1 a2:Array Value) (t1 t2:Tq) (b1 b2:Option Addr) (l1 c1 l2 c2:Nat) (V W:List Int) (j:Nat→Value):List Value:=(J j 0 3 ++ ([.slice b1 l1 c1,.slice b2 l2 c2,.pointer (some ⟨2,0,none⟩),.pointer (some ⟨3,0,none⟩),.pointer (some ⟨4,0,none⟩),j 8,j 9,.pointer (some ⟨5,0,none⟩),.pointer (some ⟨6,0,none⟩),.pointer (some ⟨7,0,none⟩)] ++ (J j 13 10 ++ ([.slice b1 l1 c1,.int .i64 ((l1:Nat):Int),.slice b2 l2 c2,.int .i64 ((l2:Nat):Int),.agg (wA .u8 16 (jnL ((8*l1:Nat):Int) ((8*l2:Nat):Int)))] ++ (J j 28 23)))))
theorem sTg3p_0 (HB TK N A X:List Int) (a1 a2:Array Value) (t1 t2:Tq) (b1 b2:Option Addr) (l1 c1 l2 c2:Nat) (V W:List Int) (j:Nat→Value):evC (yty.enf tabW2 2) sTg3p_h (cAt [1,1,1,0] (bdy Try.f35)) ⟨sTgD_s HB TK N A X a1 a2 t1 t2 b1 b2 l1 c1 l2 c2 V W j,sTgD_m HB TK N A X a1 a2 t1 t2 b1 b2 l1 c1 l2 c2 V W,True,[]⟩=some (.normal,⟨sTg3p_b HB TK N A X a1 a2 t1 t2 b1 b2 l1 c1 l2 c2 V W j,[(a1,t1),(a2,t2),((wA .u8 16 HB),(22,(0,0))),((wA .u8 32 TK),(27,(0,0))),((wA .u8 12 N),(28,(0,0))),((wA .u8 16 []),(22,(0,0))),((wA .u8 16 W),(22,(0,0))),((wA .u8 16 (jnL ((8*l1:Nat):Int) ((8*l2:Nat):Int))),(22,(0,0)))],((((((True∧True)∧True)∧True)∧True)∧((IntKind.i64=IntKind.i64∧IntKind.i64=IntKind.i64)∧((0:Int)≤((l1:Nat):Int)∧(((l1:Nat):Int):Int)≤1000000000)∧(0:Int)≤((l2:Nat):Int)∧(((l2:Nat):Int):Int)≤1000000000))∧((wA .u8 16 (jnL ((8*l1:Nat):Int) ((8*l2:Nat):Int))).all (fun v=>v.oneCell')=true)),[]⟩):=by kernel_rfl
theorem sTg3 (HB TK N A X:List Int) (a1 a2:Array Value) (t1 t2:Tq) (b1 b2:Option Addr) (l1 c1 l2 c2:Nat) (V W:List Int) (j:Nat→Value) (hH:By HB) (hK:By TK) (hN:By N) (hb1:BkOk [(a1,t1),(a2,t2)] b1 l1 c1) (hA:bOf [(a1,t1),(a2,t2)] b1 l1=A) (hb2:BkOk [(a1,t1),(a2,t2)] b2 l2 c2) (hX:bOf [(a1,t1),(a2,t2)] b2 l2=X) (hl:l1≤1000000000∧l2≤1000000000) (hV:V=absL HB [] A) (hW:W=absL HB V X)  {c0:Prop} {ch0:List (Option Value)}:Runs Try.prog (cAt [1,1,1,0] (bdy Try.f35)) ⟨sTgD_s HB TK N A X a1 a2 t1 t2 b1 b2 l1 c1 l2 c2 V W j,sTgD_m HB TK N A X a1 a2 t1 t2 b1 b2 l1 c1 l2 c2 V W,c0,ch0⟩ (fun e s=>e= .normal∧∃(j:Nat→Value) (c:Prop) (ch:List (Option Value)),s=⟨sTgE_s HB TK N A X a1 a2 t1 t2 b1 b2 l1 c1 l2 c2 V W j,sTgE_m HB TK N A X a1 a2 t1 t2 b1 b2 l1 c1 l2 c2 V W,c,ch⟩) 2:=by
  refine(runs_ev mixed _ (sTg3p_0 HB TK N A X a1 a2 t1 t2 b1 b2 l1 c1 l2 c2 V W j) ⟨⟨⟨⟨⟨⟨trivial,trivial⟩,trivial⟩,trivial⟩,trivial⟩,⟨⟨rfl,rfl⟩,⟨by omega,by omega⟩,by omega,by omega⟩⟩,(wA_one _ _ _)⟩).mono ?_
  rintro e s ⟨rfl,hs⟩
  refine⟨rfl,fun q=>s.tm.getD q undef,s.c,s.ch,?_⟩
  subst hs
  kernel_rfl
abbrev sTgF_s (HB TK N A X:List Int) (a1 a2:Array Value) (t1 t2:Tq) (b1 b2:Option Addr) (l1 c1 l2 c2:Nat) (V W Y:List Int) (j:Nat→Value):List Value:=(J j 0 3 ++ ([.slice b1 l1 c1,.slice b2 l2 c2,.pointer (some ⟨2,0,none⟩),.pointer (some ⟨3,0,none⟩),.pointer (some ⟨4,0,none⟩),j 8,j 9,.pointer (some ⟨5,0,none⟩),.pointer (some ⟨6,0,none⟩),.pointer (some ⟨7,0,none⟩)] ++ (J j 13 38)))
abbrev sTgF_m (HB TK N A X:List Int) (a1 a2:Array Value) (t1 t2:Tq) (b1 b2:Option Addr) (l1 c1 l2 c2:Nat) (V W Y:List Int):List Mb:= [(a1,t1),(a2,t2),((wA .u8 16 HB),(22,(0,0))),((wA .u8 32 TK),(27,(0,0))),((wA .u8 12 N),(28,(0,0))),((wA .u8 16 []),(22,(0,0))),((wA .u8 16 Y),(22,(0,0))),((wA .u8 16 (jnL ((8*l1:Nat):Int) ((8*l2:Nat):Int))),(22,(0,0)))]
def sTg4p_h (i:Nat):Hn:=if i=4 then⟨4,[],[],[],[]⟩ else⟨0,[],[],[],[]⟩
def sTg4p_b (HB TK N A X:List Int) (a1 a2:Array Value) (t1 t2:Tq) (b1 b2:Option Addr) (l1 c1 l2 c2:Nat) (V W:List Int) (j:Nat→Value):List Value:=(J j 0 3 ++ ([.slice b1 l1 c1,.slice b2 l2 c2,.pointer (some ⟨2,0,none⟩),.pointer (some ⟨3,0,none⟩),.pointer (some ⟨4,0,none⟩),j 8,j 9,.pointer (some ⟨5,0,none⟩),.pointer (some ⟨6,0,none⟩),.pointer (some ⟨7,0,none⟩)] ++ (J j 13 15 ++ ([.agg (wA .u8 16 W),.agg (wA .u8 16 HB),.slice (some ⟨7,0,none⟩) 16 16,.agg (wA .u8 16 (absL (dL8 (wA .u8 16 HB)) (dL8 (wA .u8 16 W)) (bOf [(a1,t1),(a2,t2),((wA .u8 16 HB),(22,(0,0))),((wA .u8 32 TK),(27,(0,0))),((wA .u8 12 N),(28,(0,0))),((wA .u8 16 []),(22,(0,0))),((wA .u8 16 W),(22,(0,0))),((wA .u8 16 (jnL ((8*l1:Nat):Int) ((8*l2:Nat):Int))),(22,(0,0)))] (some ⟨7,0,none⟩) 16)))] ++ (J j 32 19)))))
theorem sTg4p_0 (HB TK N A X:List Int) (a1 a2:Array Value) (t1 t2:Tq) (b1 b2:Option Addr) (l1 c1 l2 c2:Nat) (V W:List Int) (j:Nat→Value):evC (yty.enf tabW2 2) sTg4p_h (cAt [1,1,1,1,0] (bdy Try.f35)) ⟨sTgE_s HB TK N A X a1 a2 t1 t2 b1 b2 l1 c1 l2 c2 V W j,sTgE_m HB TK N A X a1 a2 t1 t2 b1 b2 l1 c1 l2 c2 V W,True,[]⟩=some (.normal,⟨sTg4p_b HB TK N A X a1 a2 t1 t2 b1 b2 l1 c1 l2 c2 V W j,[(a1,t1),(a2,t2),((wA .u8 16 HB),(22,(0,0))),((wA .u8 32 TK),(27,(0,0))),((wA .u8 12 N),(28,(0,0))),((wA .u8 16 []),(22,(0,0))),((wA .u8 16 (absL (dL8 (wA .u8 16 HB)) (dL8 (wA .u8 16 W)) (bOf [(a1,t1),(a2,t2),((wA .u8 16 HB),(22,(0,0))),((wA .u8 32 TK),(27,(0,0))),((wA .u8 12 N),(28,(0,0))),((wA .u8 16 []),(22,(0,0))),((wA .u8 16 W),(22,(0,0))),((wA .u8 16 (jnL ((8*l1:Nat):Int) ((8*l2:Nat):Int))),(22,(0,0)))] (some ⟨7,0,none⟩) 16))),(22,(0,0))),((wA .u8 16 (jnL ((8*l1:Nat):Int) ((8*l2:Nat):Int))),(22,(0,0)))],(((((True∧True)∧True)∧True)∧((((wA .u8 16 W)=wA .u8 16 (dL8 (wA .u8 16 W))∧By (dL8 (wA .u8 16 W)))∧((wA .u8 16 HB)=wA .u8 16 (dL8 (wA .u8 16 HB))∧By (dL8 (wA .u8 16 HB))))∧BkOk [(a1,t1),(a2,t2),((wA .u8 16 HB),(22,(0,0))),((wA .u8 32 TK),(27,(0,0))),((wA .u8 12 N),(28,(0,0))),((wA .u8 16 []),(22,(0,0))),((wA .u8 16 W),(22,(0,0))),((wA .u8 16 (jnL ((8*l1:Nat):Int) ((8*l2:Nat):Int))),(22,(0,0)))] (some ⟨7,0,none⟩) 16 16∧16≤1000000000))∧((wA .u8 16 (absL (dL8 (wA .u8 16 HB)) (dL8 (wA .u8 16 W)) (bOf [(a1,t1),(a2,t2),((wA .u8 16 HB),(22,(0,0))),((wA .u8 32 TK),(27,(0,0))),((wA .u8 12 N),(28,(0,0))),((wA .u8 16 []),(22,(0,0))),((wA .u8 16 W),(22,(0,0))),((wA .u8 16 (jnL ((8*l1:Nat):Int) ((8*l2:Nat):Int))),(22,(0,0)))] (some ⟨7,0,none⟩) 16))).all (fun v=>v.oneCell')=true)),[]⟩):=by kernel_rfl
theorem sTg4 (HB TK N A X:List Int) (a1 a2:Array Value) (t1 t2:Tq) (b1 b2:Option Addr) (l1 c1 l2 c2:Nat) (V W:List Int) (j:Nat→Value) (hH:By HB) (hK:By TK) (hN:By N) (hb1:BkOk [(a1,t1),(a2,t2)] b1 l1 c1) (hA:bOf [(a1,t1),(a2,t2)] b1 l1=A) (hb2:BkOk [(a1,t1),(a2,t2)] b2 l2 c2) (hX:bOf [(a1,t1),(a2,t2)] b2 l2=X) (hl:l1≤1000000000∧l2≤1000000000) (hV:V=absL HB [] A) (hW:W=absL HB V X)  {c0:Prop} {ch0:List (Option Value)}:Runs Try.prog (cAt [1,1,1,1,0] (bdy Try.f35)) ⟨sTgE_s HB TK N A X a1 a2 t1 t2 b1 b2 l1 c1 l2 c2 V W j,sTgE_m HB TK N A X a1 a2 t1 t2 b1 b2 l1 c1 l2 c2 V W,c0,ch0⟩ (fun e s=>e= .normal∧∃(j:Nat→Value) (c:Prop) (ch:List (Option Value)),((absL (dL8 (wA .u8 16 HB)) (dL8 (wA .u8 16 W)) (bOf [(a1,t1),(a2,t2),((wA .u8 16 HB),(22,(0,0))),((wA .u8 32 TK),(27,(0,0))),((wA .u8 12 N),(28,(0,0))),((wA .u8 16 []),(22,(0,0))),((wA .u8 16 W),(22,(0,0))),((wA .u8 16 (jnL ((8*l1:Nat):Int) ((8*l2:Nat):Int))),(22,(0,0)))] (some ⟨7,0,none⟩) 16))=absL HB W (jnL ((8*l1:Nat):Int) ((8*l2:Nat):Int)))∧s=⟨sTgF_s HB TK N A X a1 a2 t1 t2 b1 b2 l1 c1 l2 c2 V W (absL (dL8 (wA .u8 16 HB)) (dL8 (wA .u8 16 W)) (bOf [(a1,t1),(a2,t2),((wA .u8 16 HB),(22,(0,0))),((wA .u8 32 TK),(27,(0,0))),((wA .u8 12 N),(28,(0,0))),((wA .u8 16 []),(22,(0,0))),((wA .u8 16 W),(22,(0,0))),((wA .u8 16 (jnL ((8*l1:Nat):Int) ((8*l2:Nat):Int))),(22,(0,0)))] (some ⟨7,0,none⟩) 16)) j,sTgF_m HB TK N A X a1 a2 t1 t2 b1 b2 l1 c1 l2 c2 V W (absL (dL8 (wA .u8 16 HB)) (dL8 (wA .u8 16 W)) (bOf [(a1,t1),(a2,t2),((wA .u8 16 HB),(22,(0,0))),((wA .u8 32 TK),(27,(0,0))),((wA .u8 12 N),(28,(0,0))),((wA .u8 16 []),(22,(0,0))),((wA .u8 16 W),(22,(0,0))),((wA .u8 16 (jnL ((8*l1:Nat):Int) ((8*l2:Nat):Int))),(22,(0,0)))] (some ⟨7,0,none⟩) 16)),c,ch⟩) 2:=by
  refine(runs_ev mixed _ (sTg4p_0 HB TK N A X a1 a2 t1 t2 b1 b2 l1 c1 l2 c2 V W j) ⟨⟨⟨⟨⟨trivial,trivial⟩,trivial⟩,trivial⟩,⟨⟨dq (by rw[hW];exact absL_by (by rw[hV];exact absL_by by_nil)),dq hH⟩,⟨by decide,.inr ⟨7,0,_,_,rfl,rfl,bytes_w (jnL_by _ _),by rw[wA_size];decide⟩⟩,by decide⟩⟩,(wA_one _ _ _)⟩).mono ?_
  rintro e s ⟨rfl,hs⟩
  refine⟨rfl,fun q=>s.tm.getD q undef,s.c,s.ch,by rw[absL_w];congr 1,?_⟩
  subst hs
  kernel_rfl
abbrev sTgG_s (HB TK N A X:List Int) (a1 a2:Array Value) (t1 t2:Tq) (b1 b2:Option Addr) (l1 c1 l2 c2:Nat) (V W Y:List Int) (i:Nat) (Z:List Int) (j:Nat→Value):List Value:=(J j 0 6 ++ ([.pointer (some ⟨3,0,none⟩)] ++ (J j 7 3 ++ ([.pointer (some ⟨5,0,none⟩),.pointer (some ⟨6,0,none⟩)] ++ (J j 12 20 ++ ([.agg (wA .u8 12 N),.int .i64 ((i:Nat):Int)] ++ (J j 34 17)))))))
abbrev sTgG_m (HB TK N A X:List Int) (a1 a2:Array Value) (t1 t2:Tq) (b1 b2:Option Addr) (l1 c1 l2 c2:Nat) (V W Y:List Int) (i:Nat) (Z:List Int):List Mb:= [(a1,t1),(a2,t2),((wA .u8 16 HB),(22,(0,0))),((wA .u8 32 TK),(27,(0,0))),((wA .u8 12 N),(28,(0,0))),((wA .u8 16 []),(22,(0,0))),((wA .u8 16 Z),(22,(0,0))),((wA .u8 16 (jnL ((8*l1:Nat):Int) ((8*l2:Nat):Int))),(22,(0,0)))]
def sTg5p_h (i:Nat):Hn:=if i=4 then⟨4,[],[],[],[]⟩ else⟨0,[],[],[],[]⟩
def sTg5p_b (HB TK N A X:List Int) (a1 a2:Array Value) (t1 t2:Tq) (b1 b2:Option Addr) (l1 c1 l2 c2:Nat) (V W Y:List Int) (j:Nat→Value):List Value:=(J j 0 3 ++ ([.slice b1 l1 c1,.slice b2 l2 c2,.pointer (some ⟨2,0,none⟩),.pointer (some ⟨3,0,none⟩),.pointer (some ⟨4,0,none⟩),j 8,j 9,.pointer (some ⟨5,0,none⟩),.pointer (some ⟨6,0,none⟩),.pointer (some ⟨7,0,none⟩)] ++ (J j 13 19 ++ ([.agg (wA .u8 12 N),.int .i64 0] ++ (J j 34 17)))))
theorem sTg5p_0 (HB TK N A X:List Int) (a1 a2:Array Value) (t1 t2:Tq) (b1 b2:Option Addr) (l1 c1 l2 c2:Nat) (V W Y:List Int) (j:Nat→Value):evC (yty.enf tabW2 2) sTg5p_h (cAt [1,1,1,1,1,0,0] (bdy Try.f35)) ⟨sTgF_s HB TK N A X a1 a2 t1 t2 b1 b2 l1 c1 l2 c2 V W Y j,sTgF_m HB TK N A X a1 a2 t1 t2 b1 b2 l1 c1 l2 c2 V W Y,True,[]⟩=some (.normal,⟨sTg5p_b HB TK N A X a1 a2 t1 t2 b1 b2 l1 c1 l2 c2 V W Y j,[(a1,t1),(a2,t2),((wA .u8 16 HB),(22,(0,0))),((wA .u8 32 TK),(27,(0,0))),((wA .u8 12 N),(28,(0,0))),((wA .u8 16 []),(22,(0,0))),((wA .u8 16 Y),(22,(0,0))),((wA .u8 16 (jnL ((8*l1:Nat):Int) ((8*l2:Nat):Int))),(22,(0,0)))],((True∧True)∧True),[]⟩):=by kernel_rfl
theorem sTg5 (HB TK N A X:List Int) (a1 a2:Array Value) (t1 t2:Tq) (b1 b2:Option Addr) (l1 c1 l2 c2:Nat) (V W Y:List Int) (j:Nat→Value) (hH:By HB) (hK:By TK) (hN:By N) (hb1:BkOk [(a1,t1),(a2,t2)] b1 l1 c1) (hA:bOf [(a1,t1),(a2,t2)] b1 l1=A) (hb2:BkOk [(a1,t1),(a2,t2)] b2 l2 c2) (hX:bOf [(a1,t1),(a2,t2)] b2 l2=X) (hl:l1≤1000000000∧l2≤1000000000) (hV:V=absL HB [] A) (hW:W=absL HB V X) (hY:Y=absL HB W (jnL ((8*l1:Nat):Int) ((8*l2:Nat):Int)))  {c0:Prop} {ch0:List (Option Value)}:Runs Try.prog (cAt [1,1,1,1,1,0,0] (bdy Try.f35)) ⟨sTgF_s HB TK N A X a1 a2 t1 t2 b1 b2 l1 c1 l2 c2 V W Y j,sTgF_m HB TK N A X a1 a2 t1 t2 b1 b2 l1 c1 l2 c2 V W Y,c0,ch0⟩ (fun e s=>e= .normal∧∃(j:Nat→Value) (c:Prop) (ch:List (Option Value)),((xrv Y N 0)=xrv Y N 0)∧(0≤12)∧s=⟨sTgG_s HB TK N A X a1 a2 t1 t2 b1 b2 l1 c1 l2 c2 V W Y 0 (xrv Y N 0) j,sTgG_m HB TK N A X a1 a2 t1 t2 b1 b2 l1 c1 l2 c2 V W Y 0 (xrv Y N 0),c,ch⟩) 2:=by
  refine(runs_ev mixed _ (sTg5p_0 HB TK N A X a1 a2 t1 t2 b1 b2 l1 c1 l2 c2 V W Y j) ⟨⟨trivial,trivial⟩,trivial⟩).mono ?_
  rintro e s ⟨rfl,hs⟩
  refine⟨rfl,fun q=>s.tm.getD q undef,s.c,s.ch,rfl,by omega,?_⟩
  subst hs
  rw[xrv_0 Y N]
  kernel_rfl
def sTg6p_h (i:Nat):Hn:=if i=4 then⟨4,[],[],[],[]⟩ else⟨0,[],[],[],[]⟩
def sTg6p_b (HB TK N A X:List Int) (a1 a2:Array Value) (t1 t2:Tq) (b1 b2:Option Addr) (l1 c1 l2 c2:Nat) (V W Y:List Int) (i:Nat) (Z:List Int) (j:Nat→Value):List Value:=(J j 0 6 ++ ([.pointer (some ⟨3,0,none⟩)] ++ (J j 7 3 ++ ([.pointer (some ⟨5,0,none⟩),.pointer (some ⟨6,0,none⟩),j 12,.int .i64 ((i:Nat):Int),.int .u8 (intOf ((wA .u8 12 N).getD (Int.toNat ((i:Nat):Int)) undef))] ++ (J j 15 17 ++ ([.agg (wA .u8 12 N),.int .i64 ((i+1:Nat):Int),.bool true,.int .i64 ((i:Nat):Int),.int .u8 (intOf ((wA .u8 12 N).getD (Int.toNat ((i:Nat):Int)) undef)),.int .i64 ((i:Nat):Int),.pointer (some ⟨6,0+Int.toNat ((i:Nat):Int)*1,none⟩),.int .u8 (Z.getD i 0),.int .u8 (intOf ((wA .u8 12 N).getD (Int.toNat ((i:Nat):Int)) undef)),.int .u8 (bits .xor .u8 (Z.getD i 0) (intOf ((wA .u8 12 N).getD (Int.toNat ((i:Nat):Int)) undef))),.pointer (some ⟨6,0+Int.toNat ((i:Nat):Int)*1,none⟩),.int .i64 ((i+1:Nat):Int)] ++ (J j 44 7)))))))
theorem sTg6p_0 (HB TK N A X:List Int) (a1 a2:Array Value) (t1 t2:Tq) (b1 b2:Option Addr) (l1 c1 l2 c2:Nat) (V W Y:List Int) (i:Nat) (Z:List Int) (j:Nat→Value):evC (yty.enf tabW2 2) sTg6p_h (cAt [1,1,1,1,1,0,1,0,0] (bdy Try.f35)) ⟨sTgG_s HB TK N A X a1 a2 t1 t2 b1 b2 l1 c1 l2 c2 V W Y i Z j,sTgG_m HB TK N A X a1 a2 t1 t2 b1 b2 l1 c1 l2 c2 V W Y i Z,True,[some (.bool true),some (.int .u8 (Z.getD i 0)),none,some (.agg (wA .u8 16 (lset 16 Z i (bits .xor .u8 (Z.getD i 0) (intOf ((wA .u8 12 N).getD (Int.toNat ((i:Nat):Int)) undef)))))),some (.int .i64 ((i+1:Nat):Int))]⟩=some (.normal,⟨sTg6p_b HB TK N A X a1 a2 t1 t2 b1 b2 l1 c1 l2 c2 V W Y i Z j,[(a1,t1),(a2,t2),((wA .u8 16 HB),(22,(0,0))),((wA .u8 32 TK),(27,(0,0))),((wA .u8 12 N),(28,(0,0))),((wA .u8 16 []),(22,(0,0))),((wA .u8 16 (lset 16 Z i (bits .xor .u8 (Z.getD i 0) (intOf ((wA .u8 12 N).getD (Int.toNat ((i:Nat):Int)) undef))))),(22,(0,0))),((wA .u8 16 (jnL ((8*l1:Nat):Int) ((8*l2:Nat):Int))),(22,(0,0)))],((((((((((((((True∧(True∧(decide (((i:Nat):Int)<12))=true))∧True)∧((0≤((i:Nat):Int)∧((i:Nat):Int)<((12:Nat):Int))∧(wA .u8 12 N)[Int.toNat ((i:Nat):Int)]? =some (.int .u8 (intOf ((wA .u8 12 N).getD (Int.toNat ((i:Nat):Int)) undef)))))∧True)∧True)∧True)∧(0≤((i:Nat):Int)∧((i:Nat):Int)<((16:Nat):Int)))∧(((wA .u8 16 Z)[(0+Int.toNat ((i:Nat):Int)*1)]? =some (.int .u8 (Z.getD i 0)))∧(Z.getD i 0)=(Z.getD i 0)))∧True)∧True)∧(0≤((i:Nat):Int)∧((i:Nat):Int)<((16:Nat):Int)))∧((0+Int.toNat ((i:Nat):Int)*1)<(wA .u8 16 Z).size∧(wA .u8 16 Z).setIfInBounds (0+Int.toNat ((i:Nat):Int)*1) (.int .u8 (bits .xor .u8 (Z.getD i 0) (intOf ((wA .u8 12 N).getD (Int.toNat ((i:Nat):Int)) undef))))=(wA .u8 16 (lset 16 Z i (bits .xor .u8 (Z.getD i 0) (intOf ((wA .u8 12 N).getD (Int.toNat ((i:Nat):Int)) undef)))))))∧(True∧(IntKind.i64.wrap (((i:Nat):Int)+1))=((i+1:Nat):Int)))∧True),[]⟩):=by kernel_rfl
theorem sTg6 (HB TK N A X:List Int) (a1 a2:Array Value) (t1 t2:Tq) (b1 b2:Option Addr) (l1 c1 l2 c2:Nat) (V W Y:List Int) (i:Nat) (Z:List Int) (j:Nat→Value) (hH:By HB) (hK:By TK) (hN:By N) (hb1:BkOk [(a1,t1),(a2,t2)] b1 l1 c1) (hA:bOf [(a1,t1),(a2,t2)] b1 l1=A) (hb2:BkOk [(a1,t1),(a2,t2)] b2 l2 c2) (hX:bOf [(a1,t1),(a2,t2)] b2 l2=X) (hl:l1≤1000000000∧l2≤1000000000) (hV:V=absL HB [] A) (hW:W=absL HB V X) (hY:Y=absL HB W (jnL ((8*l1:Nat):Int) ((8*l2:Nat):Int))) (hZ:Z=xrv Y N i) (hi:i≤12) (hlt:i<12) {c0:Prop} {ch0:List (Option Value)}:Runs Try.prog (cAt [1,1,1,1,1,0,1,0,0] (bdy Try.f35)) ⟨sTgG_s HB TK N A X a1 a2 t1 t2 b1 b2 l1 c1 l2 c2 V W Y i Z j,sTgG_m HB TK N A X a1 a2 t1 t2 b1 b2 l1 c1 l2 c2 V W Y i Z,c0,ch0⟩ (fun e s=>e= .normal∧∃(j:Nat→Value) (c:Prop) (ch:List (Option Value)),((lset 16 Z i (bits .xor .u8 (Z.getD i 0) (intOf ((wA .u8 12 N).getD (Int.toNat ((i:Nat):Int)) undef))))=xrv Y N (i+1))∧((i+1)≤12)∧s=⟨sTgG_s HB TK N A X a1 a2 t1 t2 b1 b2 l1 c1 l2 c2 V W Y (i+1) (lset 16 Z i (bits .xor .u8 (Z.getD i 0) (intOf ((wA .u8 12 N).getD (Int.toNat ((i:Nat):Int)) undef)))) j,sTgG_m HB TK N A X a1 a2 t1 t2 b1 b2 l1 c1 l2 c2 V W Y (i+1) (lset 16 Z i (bits .xor .u8 (Z.getD i 0) (intOf ((wA .u8 12 N).getD (Int.toNat ((i:Nat):Int)) undef)))),c,ch⟩) 2:=by
  have h0:(decide (((i:Nat):Int)<12))=true:=(decide_eq_true (by omega))
  refine(runs_ev mixed _ (sTg6p_0 HB TK N A X a1 a2 t1 t2 b1 b2 l1 c1 l2 c2 V W Y i Z j) ⟨⟨⟨⟨⟨⟨⟨⟨⟨⟨⟨⟨⟨⟨trivial,⟨trivial,h0⟩⟩,trivial⟩,ix12 hlt⟩,trivial⟩,trivial⟩,trivial⟩,(by(try simp only[Int.toNat_natCast,wA_size]);omega)⟩,⟨(wA_get (by omega) (by omega)),rfl⟩⟩,trivial⟩,trivial⟩,(by(try simp only[Int.toNat_natCast,wA_size]);omega)⟩,⟨(by rw[wA_size];omega),wA_putE (by omega) (by omega)⟩⟩,⟨trivial,(by rw[IntKind.wrap_i64];omega)⟩⟩,trivial⟩).mono ?_
  rintro e s ⟨rfl,hs⟩
  refine⟨rfl,fun q=>s.tm.getD q undef,s.c,s.ch,by rw[iv12 hlt];exact xrv_step (by omega) hZ,by omega,?_⟩
  subst hs
  kernel_rfl
abbrev sTgH_s (HB TK N A X:List Int) (a1 a2:Array Value) (t1 t2:Tq) (b1 b2:Option Addr) (l1 c1 l2 c2:Nat) (V W Y:List Int) (i:Nat) (Z:List Int) (j:Nat→Value):List Value:=(J j 0 6 ++ ([.pointer (some ⟨3,0,none⟩)] ++ (J j 7 3 ++ ([.pointer (some ⟨5,0,none⟩),.pointer (some ⟨6,0,none⟩)] ++ (J j 12 20 ++ ([.agg (wA .u8 12 N),.int .i64 ((i:Nat):Int)] ++ (J j 34 17)))))))
abbrev sTgH_m (HB TK N A X:List Int) (a1 a2:Array Value) (t1 t2:Tq) (b1 b2:Option Addr) (l1 c1 l2 c2:Nat) (V W Y:List Int) (i:Nat) (Z:List Int):List Mb:= [(a1,t1),(a2,t2),((wA .u8 16 HB),(22,(0,0))),((wA .u8 32 TK),(27,(0,0))),((wA .u8 12 N),(28,(0,0))),((wA .u8 16 []),(22,(0,0))),((wA .u8 16 Z),(22,(0,0))),((wA .u8 16 (jnL ((8*l1:Nat):Int) ((8*l2:Nat):Int))),(22,(0,0)))]
def sTg7p_h (i:Nat):Hn:=if i=4 then⟨4,[],[],[],[]⟩ else⟨0,[],[],[],[]⟩
def sTg7p_b (HB TK N A X:List Int) (a1 a2:Array Value) (t1 t2:Tq) (b1 b2:Option Addr) (l1 c1 l2 c2:Nat) (V W Y:List Int) (i:Nat) (Z:List Int) (j:Nat→Value):List Value:=(J j 0 6 ++ ([.pointer (some ⟨3,0,none⟩)] ++ (J j 7 3 ++ ([.pointer (some ⟨5,0,none⟩),.pointer (some ⟨6,0,none⟩)] ++ (J j 12 20 ++ ([.agg (wA .u8 12 N),.int .i64 ((i:Nat):Int),.bool false] ++ (J j 35 16)))))))
theorem sTg7p_0 (HB TK N A X:List Int) (a1 a2:Array Value) (t1 t2:Tq) (b1 b2:Option Addr) (l1 c1 l2 c2:Nat) (V W Y:List Int) (i:Nat) (Z:List Int) (j:Nat→Value):evC (yty.enf tabW2 2) sTg7p_h (cAt [1,1,1,1,1,0,1,0,0] (bdy Try.f35)) ⟨sTgG_s HB TK N A X a1 a2 t1 t2 b1 b2 l1 c1 l2 c2 V W Y i Z j,sTgG_m HB TK N A X a1 a2 t1 t2 b1 b2 l1 c1 l2 c2 V W Y i Z,True,[some (.bool false)]⟩=some ((.exit 0),⟨sTg7p_b HB TK N A X a1 a2 t1 t2 b1 b2 l1 c1 l2 c2 V W Y i Z j,[(a1,t1),(a2,t2),((wA .u8 16 HB),(22,(0,0))),((wA .u8 32 TK),(27,(0,0))),((wA .u8 12 N),(28,(0,0))),((wA .u8 16 []),(22,(0,0))),((wA .u8 16 Z),(22,(0,0))),((wA .u8 16 (jnL ((8*l1:Nat):Int) ((8*l2:Nat):Int))),(22,(0,0)))],(True∧(True∧(decide (((i:Nat):Int)<12))=false)),[]⟩):=by kernel_rfl
theorem sTg7 (HB TK N A X:List Int) (a1 a2:Array Value) (t1 t2:Tq) (b1 b2:Option Addr) (l1 c1 l2 c2:Nat) (V W Y:List Int) (i:Nat) (Z:List Int) (j:Nat→Value) (hH:By HB) (hK:By TK) (hN:By N) (hb1:BkOk [(a1,t1),(a2,t2)] b1 l1 c1) (hA:bOf [(a1,t1),(a2,t2)] b1 l1=A) (hb2:BkOk [(a1,t1),(a2,t2)] b2 l2 c2) (hX:bOf [(a1,t1),(a2,t2)] b2 l2=X) (hl:l1≤1000000000∧l2≤1000000000) (hV:V=absL HB [] A) (hW:W=absL HB V X) (hY:Y=absL HB W (jnL ((8*l1:Nat):Int) ((8*l2:Nat):Int))) (hZ:Z=xrv Y N i) (hi:i≤12) (hge:¬ i<12) {c0:Prop} {ch0:List (Option Value)}:Runs Try.prog (cAt [1,1,1,1,1,0,1,0,0] (bdy Try.f35)) ⟨sTgG_s HB TK N A X a1 a2 t1 t2 b1 b2 l1 c1 l2 c2 V W Y i Z j,sTgG_m HB TK N A X a1 a2 t1 t2 b1 b2 l1 c1 l2 c2 V W Y i Z,c0,ch0⟩ (fun e s=>e=(.exit 0)∧∃(j:Nat→Value) (c:Prop) (ch:List (Option Value)),(Z=xrv Y N 12)∧s=⟨sTgH_s HB TK N A X a1 a2 t1 t2 b1 b2 l1 c1 l2 c2 V W Y i Z j,sTgH_m HB TK N A X a1 a2 t1 t2 b1 b2 l1 c1 l2 c2 V W Y i Z,c,ch⟩) 2:=by
  have h0:(decide (((i:Nat):Int)<12))=false:=(decide_eq_false (by omega))
  refine(runs_ev mixed _ (sTg7p_0 HB TK N A X a1 a2 t1 t2 b1 b2 l1 c1 l2 c2 V W Y i Z j) ⟨trivial,⟨trivial,h0⟩⟩).mono ?_
  rintro e s ⟨rfl,hs⟩
  refine⟨rfl,fun q=>s.tm.getD q undef,s.c,s.ch,by rw[hZ,show i=12 by omega],?_⟩
  subst hs
  kernel_rfl
theorem sTg8L (HB:List Int) (TK:List Int) (N:List Int) (A:List Int) (X:List Int) (a1:Array Value) (a2:Array Value) (t1:Tq) (t2:Tq) (b1:Option Addr) (b2:Option Addr) (l1:Nat) (c1:Nat) (l2:Nat) (c2:Nat) (V:List Int) (W:List Int) (Y:List Int) (j:Nat→Value) (hH:By HB) (hK:By TK) (hN:By N) (hb1:BkOk [(a1,t1),(a2,t2)] b1 l1 c1) (hA:bOf [(a1,t1),(a2,t2)] b1 l1=A) (hb2:BkOk [(a1,t1),(a2,t2)] b2 l2 c2) (hX:bOf [(a1,t1),(a2,t2)] b2 l2=X) (hl:l1≤1000000000∧l2≤1000000000) (hV:V=absL HB [] A) (hW:W=absL HB V X) (hY:Y=absL HB W (jnL ((8*l1:Nat):Int) ((8*l2:Nat):Int))) (ihZ:(xrv Y N 0)=xrv Y N 0) (ihi:0≤12)  {c0:Prop} {ch0:List (Option Value)}:Runs Try.prog (.loop (cAt [1,1,1,1,1,0,1,0,0] (bdy Try.f35))) ⟨sTgG_s HB TK N A X a1 a2 t1 t2 b1 b2 l1 c1 l2 c2 V W Y 0 (xrv Y N 0) j,sTgG_m HB TK N A X a1 a2 t1 t2 b1 b2 l1 c1 l2 c2 V W Y 0 (xrv Y N 0),c0,ch0⟩ (fun e s=>e= .exit 0∧∃(i:Nat) (Z:List Int) (j:Nat→Value) (c:Prop) (ch:List (Option Value)),(Z=xrv Y N 12)∧s=⟨sTgH_s HB TK N A X a1 a2 t1 t2 b1 b2 l1 c1 l2 c2 V W Y i Z j,sTgH_m HB TK N A X a1 a2 t1 t2 b1 b2 l1 c1 l2 c2 V W Y i Z,c,ch⟩) 2:=by
  refine runs_loop (fun M s=>∃(i:Nat) (Z:List Int) (j:Nat→Value) (c:Prop) (ch:List (Option Value)),(Z=xrv Y N i)∧(i≤12)∧M=12 - i∧s=⟨sTgG_s HB TK N A X a1 a2 t1 t2 b1 b2 l1 c1 l2 c2 V W Y i Z j,sTgG_m HB TK N A X a1 a2 t1 t2 b1 b2 l1 c1 l2 c2 V W Y i Z,c,ch⟩) (12 - 0) ⟨0,(xrv Y N 0),j,c0,ch0,ihZ,ihi,rfl,rfl⟩ ?_
  rintro M s ⟨i,Z,j,c,ch,hZ,hi,rfl,rfl⟩
  by_cases hlt:i<12
  · skip
    refine(sTg6 HB TK N A X a1 a2 t1 t2 b1 b2 l1 c1 l2 c2 V W Y i Z j hH hK hN hb1 hA hb2 hX hl hV hW hY hZ hi hlt).mono ?_
    rintro e s ⟨rfl,j,c,ch,f11,f12,rfl⟩
    exact .inl ⟨rfl,12 - (i+1),by omega,⟨(i+1),(lset 16 Z i (bits .xor .u8 (Z.getD i 0) (intOf ((wA .u8 12 N).getD (Int.toNat ((i:Nat):Int)) undef)))),j,c,ch,f11,f12,rfl,rfl⟩⟩
  · refine (sTg7 HB TK N A X a1 a2 t1 t2 b1 b2 l1 c1 l2 c2 V W Y i Z j hH hK hN hb1 hA hb2 hX hl hV hW hY hZ hi hlt).mono ?_
    intro e s hh
    obtain⟨rfl,j,c,ch,f11,rfl⟩:=hh
    exact .inr ⟨by simp,rfl,i,Z,j,c,ch,f11,rfl⟩
theorem sTg8 (HB:List Int) (TK:List Int) (N:List Int) (A:List Int) (X:List Int) (a1:Array Value) (a2:Array Value) (t1:Tq) (t2:Tq) (b1:Option Addr) (b2:Option Addr) (l1:Nat) (c1:Nat) (l2:Nat) (c2:Nat) (V:List Int) (W:List Int) (Y:List Int) (j:Nat→Value) (hH:By HB) (hK:By TK) (hN:By N) (hb1:BkOk [(a1,t1),(a2,t2)] b1 l1 c1) (hA:bOf [(a1,t1),(a2,t2)] b1 l1=A) (hb2:BkOk [(a1,t1),(a2,t2)] b2 l2 c2) (hX:bOf [(a1,t1),(a2,t2)] b2 l2=X) (hl:l1≤1000000000∧l2≤1000000000) (hV:V=absL HB [] A) (hW:W=absL HB V X) (hY:Y=absL HB W (jnL ((8*l1:Nat):Int) ((8*l2:Nat):Int))) (ihZ:(xrv Y N 0)=xrv Y N 0) (ihi:0≤12)  {c0:Prop} {ch0:List (Option Value)}:Runs Try.prog (cAt [1,1,1,1,1,0,1] (bdy Try.f35)) ⟨sTgG_s HB TK N A X a1 a2 t1 t2 b1 b2 l1 c1 l2 c2 V W Y 0 (xrv Y N 0) j,sTgG_m HB TK N A X a1 a2 t1 t2 b1 b2 l1 c1 l2 c2 V W Y 0 (xrv Y N 0),c0,ch0⟩ (fun e s=>e= .normal∧∃(i:Nat) (Z:List Int) (j:Nat→Value) (c:Prop) (ch:List (Option Value)),(Z=xrv Y N 12)∧s=⟨sTgH_s HB TK N A X a1 a2 t1 t2 b1 b2 l1 c1 l2 c2 V W Y i Z j,sTgH_m HB TK N A X a1 a2 t1 t2 b1 b2 l1 c1 l2 c2 V W Y i Z,c,ch⟩) 2:=by
  rw[show(cAt [1,1,1,1,1,0,1] (bdy Try.f35))= .block 0 (.loop (cAt [1,1,1,1,1,0,1,0,0] (bdy Try.f35))) from by kernel_rfl]
  refine runs_block (sTg8L HB TK N A X a1 a2 t1 t2 b1 b2 l1 c1 l2 c2 V W Y j hH hK hN hb1 hA hb2 hX hl hV hW hY ihZ ihi ) ?_
  rintro e s ⟨rfl,hh⟩
  exact .inl ⟨rfl,rfl,hh⟩
theorem sTg9 (HB TK N A X:List Int) (a1 a2:Array Value) (t1 t2:Tq) (b1 b2:Option Addr) (l1 c1 l2 c2:Nat) (V W Y:List Int) (j:Nat→Value) (hH:By HB) (hK:By TK) (hN:By N) (hb1:BkOk [(a1,t1),(a2,t2)] b1 l1 c1) (hA:bOf [(a1,t1),(a2,t2)] b1 l1=A) (hb2:BkOk [(a1,t1),(a2,t2)] b2 l2 c2) (hX:bOf [(a1,t1),(a2,t2)] b2 l2=X) (hl:l1≤1000000000∧l2≤1000000000) (hV:V=absL HB [] A) (hW:W=absL HB V X) (hY:Y=absL HB W (jnL ((8*l1:Nat):Int) ((8*l2:Nat):Int)))  {c0:Prop} {ch0:List (Option Value)}:Runs Try.prog (cAt [1,1,1,1,1,0] (bdy Try.f35)) ⟨sTgF_s HB TK N A X a1 a2 t1 t2 b1 b2 l1 c1 l2 c2 V W Y j,sTgF_m HB TK N A X a1 a2 t1 t2 b1 b2 l1 c1 l2 c2 V W Y,c0,ch0⟩ (fun e s=>e= .normal∧∃(i1:Nat) (Z1:List Int) (j:Nat→Value) (c:Prop) (ch:List (Option Value)),(Z1=xrv Y N 12)∧s=⟨sTgH_s HB TK N A X a1 a2 t1 t2 b1 b2 l1 c1 l2 c2 V W Y i1 Z1 j,sTgH_m HB TK N A X a1 a2 t1 t2 b1 b2 l1 c1 l2 c2 V W Y i1 Z1,c,ch⟩) 2:=by
  rw[show(cAt [1,1,1,1,1,0] (bdy Try.f35))=(.seq (cAt [1,1,1,1,1,0,0] (bdy Try.f35)) (cAt [1,1,1,1,1,0,1] (bdy Try.f35))) from by kernel_rfl]
  refine runs_seq (sTg5 HB TK N A X a1 a2 t1 t2 b1 b2 l1 c1 l2 c2 V W Y j hH hK hN hb1 hA hb2 hX hl hV hW hY ) (fun s hh=> ?_) (fun e s hne hh=>absurd hh.1 hne)
  obtain⟨_,j,c,ch,f0_11,f0_12,rfl⟩:=hh
  refine(sTg8 HB TK N A X a1 a2 t1 t2 b1 b2 l1 c1 l2 c2 V W Y j hH hK hN hb1 hA hb2 hX hl hV hW hY f0_11 f0_12 ).mono ?_
  rintro e s ⟨rfl,i1,Z1,j,c,ch,f1_11,rfl⟩
  exact⟨rfl,i1,Z1,j,c,ch,f1_11,rfl⟩
abbrev sTgI_s (HB TK N A X:List Int) (a1 a2:Array Value) (t1 t2:Tq) (b1 b2:Option Addr) (l1 c1 l2 c2:Nat) (V W Y:List Int) (i:Nat) (Z:List Int) (D:List Int) (j:Nat→Value):List Value:=(J j 0 6 ++ ([.pointer (some ⟨3,0,none⟩)] ++ (J j 7 3 ++ ([.pointer (some ⟨5,0,none⟩),.pointer (some ⟨6,0,none⟩)] ++ (J j 12 39)))))
abbrev sTgI_m (HB TK N A X:List Int) (a1 a2:Array Value) (t1 t2:Tq) (b1 b2:Option Addr) (l1 c1 l2 c2:Nat) (V W Y:List Int) (i:Nat) (Z:List Int) (D:List Int):List Mb:= [(a1,t1),(a2,t2),((wA .u8 16 HB),(22,(0,0))),((wA .u8 32 TK),(27,(0,0))),((wA .u8 12 N),(28,(0,0))),((wA .u8 16 []),(22,(0,0))),((wA .u8 16 D),(22,(0,0))),((wA .u8 16 (jnL ((8*l1:Nat):Int) ((8*l2:Nat):Int))),(22,(0,0)))]
def sTg0ap_h (i:Nat):Hn:=if i=4 then⟨4,[],[],[],[]⟩ else⟨0,[],[],[],[]⟩
def sTg0ap_b (HB TK N A X:List Int) (a1 a2:Array Value) (t1 t2:Tq) (b1 b2:Option Addr) (l1 c1 l2 c2:Nat) (V W Y:List Int) (i:Nat) (Z:List Int) (j:Nat→Value):List Value:=(J j 0 6 ++ ([.pointer (some ⟨3,0,none⟩)] ++ (J j 7 3 ++ ([.pointer (some ⟨5,0,none⟩),.pointer (some ⟨6,0,none⟩)] ++ (J j 12 20 ++ ([.agg (wA .u8 12 N),.int .i64 ((i:Nat):Int)] ++ (J j 34 10 ++ ([.pointer (some ⟨6,15,none⟩),.int .u8 (Z.getD 15 0),.int .u8 (bits .andNot .u8 (Z.getD 15 0) 128),.pointer (some ⟨6,15,none⟩)] ++ (J j 48 3)))))))))
theorem sTg0ap_0 (HB TK N A X:List Int) (a1 a2:Array Value) (t1 t2:Tq) (b1 b2:Option Addr) (l1 c1 l2 c2:Nat) (V W Y:List Int) (i:Nat) (Z:List Int) (j:Nat→Value):evC (yty.enf tabW2 2) sTg0ap_h (cAt [1,1,1,1,1,1,0] (bdy Try.f35)) ⟨sTgH_s HB TK N A X a1 a2 t1 t2 b1 b2 l1 c1 l2 c2 V W Y i Z j,sTgH_m HB TK N A X a1 a2 t1 t2 b1 b2 l1 c1 l2 c2 V W Y i Z,True,[some (.int .u8 (Z.getD 15 0)),none,some (.agg (wA .u8 16 [(Z.getD 0 0),(Z.getD 1 0),(Z.getD 2 0),(Z.getD 3 0),(Z.getD 4 0),(Z.getD 5 0),(Z.getD 6 0),(Z.getD 7 0),(Z.getD 8 0),(Z.getD 9 0),(Z.getD 10 0),(Z.getD 11 0),(Z.getD 12 0),(Z.getD 13 0),(Z.getD 14 0),(bits .andNot .u8 (Z.getD 15 0) 128)]))]⟩=some (.normal,⟨sTg0ap_b HB TK N A X a1 a2 t1 t2 b1 b2 l1 c1 l2 c2 V W Y i Z j,[(a1,t1),(a2,t2),((wA .u8 16 HB),(22,(0,0))),((wA .u8 32 TK),(27,(0,0))),((wA .u8 12 N),(28,(0,0))),((wA .u8 16 []),(22,(0,0))),((wA .u8 16 [(Z.getD 0 0),(Z.getD 1 0),(Z.getD 2 0),(Z.getD 3 0),(Z.getD 4 0),(Z.getD 5 0),(Z.getD 6 0),(Z.getD 7 0),(Z.getD 8 0),(Z.getD 9 0),(Z.getD 10 0),(Z.getD 11 0),(Z.getD 12 0),(Z.getD 13 0),(Z.getD 14 0),(bits .andNot .u8 (Z.getD 15 0) 128)]),(22,(0,0))),((wA .u8 16 (jnL ((8*l1:Nat):Int) ((8*l2:Nat):Int))),(22,(0,0)))],(((((True∧((0:Int)≤15∧(15:Int)<((16:Nat):Int)))∧(((wA .u8 16 Z)[15]? =some (.int .u8 (Z.getD 15 0)))∧(Z.getD 15 0)=(Z.getD 15 0)))∧True)∧((0:Int)≤15∧(15:Int)<((16:Nat):Int)))∧(15<(wA .u8 16 Z).size∧(wA .u8 16 Z).setIfInBounds (15) (.int .u8 (bits .andNot .u8 (Z.getD 15 0) 128))=(wA .u8 16 [(Z.getD 0 0),(Z.getD 1 0),(Z.getD 2 0),(Z.getD 3 0),(Z.getD 4 0),(Z.getD 5 0),(Z.getD 6 0),(Z.getD 7 0),(Z.getD 8 0),(Z.getD 9 0),(Z.getD 10 0),(Z.getD 11 0),(Z.getD 12 0),(Z.getD 13 0),(Z.getD 14 0),(bits .andNot .u8 (Z.getD 15 0) 128)]))),[]⟩):=by kernel_rfl
theorem sTg0a (HB TK N A X:List Int) (a1 a2:Array Value) (t1 t2:Tq) (b1 b2:Option Addr) (l1 c1 l2 c2:Nat) (V W Y:List Int) (i:Nat) (Z:List Int) (j:Nat→Value) (hH:By HB) (hK:By TK) (hN:By N) (hb1:BkOk [(a1,t1),(a2,t2)] b1 l1 c1) (hA:bOf [(a1,t1),(a2,t2)] b1 l1=A) (hb2:BkOk [(a1,t1),(a2,t2)] b2 l2 c2) (hX:bOf [(a1,t1),(a2,t2)] b2 l2=X) (hl:l1≤1000000000∧l2≤1000000000) (hV:V=absL HB [] A) (hW:W=absL HB V X) (hY:Y=absL HB W (jnL ((8*l1:Nat):Int) ((8*l2:Nat):Int))) (hZ:Z=xrv Y N 12)  {c0:Prop} {ch0:List (Option Value)}:Runs Try.prog (cAt [1,1,1,1,1,1,0] (bdy Try.f35)) ⟨sTgH_s HB TK N A X a1 a2 t1 t2 b1 b2 l1 c1 l2 c2 V W Y i Z j,sTgH_m HB TK N A X a1 a2 t1 t2 b1 b2 l1 c1 l2 c2 V W Y i Z,c0,ch0⟩ (fun e s=>e= .normal∧∃(j:Nat→Value) (c:Prop) (ch:List (Option Value)),((lset 16 Z 15 (bits .andNot .u8 (Z.getD 15 0) 128))=cutL (xrv Y N 12))∧s=⟨sTgI_s HB TK N A X a1 a2 t1 t2 b1 b2 l1 c1 l2 c2 V W Y i Z (lset 16 Z 15 (bits .andNot .u8 (Z.getD 15 0) 128)) j,sTgI_m HB TK N A X a1 a2 t1 t2 b1 b2 l1 c1 l2 c2 V W Y i Z (lset 16 Z 15 (bits .andNot .u8 (Z.getD 15 0) 128)),c,ch⟩) 2:=by
  refine(runs_ev mixed _ (sTg0ap_0 HB TK N A X a1 a2 t1 t2 b1 b2 l1 c1 l2 c2 V W Y i Z j) ⟨⟨⟨⟨⟨trivial,⟨by decide,by decide⟩⟩,⟨(wA_get (by omega) (by omega)),rfl⟩⟩,trivial⟩,⟨by decide,by decide⟩⟩,⟨by rw[wA_size];omega,by kernel_rfl⟩⟩).mono ?_
  rintro e s ⟨rfl,hs⟩
  refine⟨rfl,fun q=>s.tm.getD q undef,s.c,s.ch,by rw[hZ];rfl,?_⟩
  subst hs
  kernel_rfl
abbrev sTgJ_s (HB TK N A X:List Int) (a1 a2:Array Value) (t1 t2:Tq) (b1 b2:Option Addr) (l1 c1 l2 c2:Nat) (V W Y:List Int) (i:Nat) (Z:List Int) (D E:List Int) (j:Nat→Value):List Value:=(J j 0 10 ++ ([.pointer (some ⟨5,0,none⟩)] ++ (J j 11 40)))
abbrev sTgJ_m (HB TK N A X:List Int) (a1 a2:Array Value) (t1 t2:Tq) (b1 b2:Option Addr) (l1 c1 l2 c2:Nat) (V W Y:List Int) (i:Nat) (Z:List Int) (D E:List Int):List Mb:= [(a1,t1),(a2,t2),((wA .u8 16 HB),(22,(0,0))),((wA .u8 32 TK),(27,(0,0))),((wA .u8 12 N),(28,(0,0))),((wA .u8 16 E),(22,(0,0))),((wA .u8 16 D),(22,(0,0))),((wA .u8 16 (jnL ((8*l1:Nat):Int) ((8*l2:Nat):Int))),(22,(0,0)))]
def sTg0bp_h (i:Nat):Hn:=if i=4 then⟨4,[],[],[],[]⟩ else⟨0,[],[],[],[]⟩
def sTg0bp_b (HB TK N A X:List Int) (a1 a2:Array Value) (t1 t2:Tq) (b1 b2:Option Addr) (l1 c1 l2 c2:Nat) (V W Y:List Int) (i:Nat) (Z:List Int) (D:List Int) (j:Nat→Value):List Value:=(J j 0 6 ++ ([.pointer (some ⟨3,0,none⟩)] ++ (J j 7 3 ++ ([.pointer (some ⟨5,0,none⟩),.pointer (some ⟨6,0,none⟩)] ++ (J j 12 36 ++ ([.agg (wA .u8 32 TK),.agg (wA .u8 16 D),.agg (wA .u8 16 (encL (dL8 (wA .u8 32 TK)) (dL8 (wA .u8 16 D))))]))))))
theorem sTg0bp_0 (HB TK N A X:List Int) (a1 a2:Array Value) (t1 t2:Tq) (b1 b2:Option Addr) (l1 c1 l2 c2:Nat) (V W Y:List Int) (i:Nat) (Z:List Int) (D:List Int) (j:Nat→Value):evC (yty.enf tabW2 2) sTg0bp_h (cAt [1,1,1,1,1,1,1] (bdy Try.f35)) ⟨sTgI_s HB TK N A X a1 a2 t1 t2 b1 b2 l1 c1 l2 c2 V W Y i Z D j,sTgI_m HB TK N A X a1 a2 t1 t2 b1 b2 l1 c1 l2 c2 V W Y i Z D,True,[]⟩=some (.ret,⟨sTg0bp_b HB TK N A X a1 a2 t1 t2 b1 b2 l1 c1 l2 c2 V W Y i Z D j,[(a1,t1),(a2,t2),((wA .u8 16 HB),(22,(0,0))),((wA .u8 32 TK),(27,(0,0))),((wA .u8 12 N),(28,(0,0))),((wA .u8 16 (encL (dL8 (wA .u8 32 TK)) (dL8 (wA .u8 16 D)))),(22,(0,0))),((wA .u8 16 D),(22,(0,0))),((wA .u8 16 (jnL ((8*l1:Nat):Int) ((8*l2:Nat):Int))),(22,(0,0)))],((((True∧True)∧True)∧(((wA .u8 32 TK)=wA .u8 32 (dL8 (wA .u8 32 TK))∧By (dL8 (wA .u8 32 TK)))∧((wA .u8 16 D)=wA .u8 16 (dL8 (wA .u8 16 D))∧By (dL8 (wA .u8 16 D)))))∧((wA .u8 16 (encL (dL8 (wA .u8 32 TK)) (dL8 (wA .u8 16 D)))).all (fun v=>v.oneCell')=true)),[]⟩):=by kernel_rfl
theorem sTg0b (HB TK N A X:List Int) (a1 a2:Array Value) (t1 t2:Tq) (b1 b2:Option Addr) (l1 c1 l2 c2:Nat) (V W Y:List Int) (i:Nat) (Z:List Int) (D:List Int) (j:Nat→Value) (hH:By HB) (hK:By TK) (hN:By N) (hb1:BkOk [(a1,t1),(a2,t2)] b1 l1 c1) (hA:bOf [(a1,t1),(a2,t2)] b1 l1=A) (hb2:BkOk [(a1,t1),(a2,t2)] b2 l2 c2) (hX:bOf [(a1,t1),(a2,t2)] b2 l2=X) (hl:l1≤1000000000∧l2≤1000000000) (hV:V=absL HB [] A) (hW:W=absL HB V X) (hY:Y=absL HB W (jnL ((8*l1:Nat):Int) ((8*l2:Nat):Int))) (hD:D=cutL (xrv Y N 12))  {c0:Prop} {ch0:List (Option Value)}:Runs Try.prog (cAt [1,1,1,1,1,1,1] (bdy Try.f35)) ⟨sTgI_s HB TK N A X a1 a2 t1 t2 b1 b2 l1 c1 l2 c2 V W Y i Z D j,sTgI_m HB TK N A X a1 a2 t1 t2 b1 b2 l1 c1 l2 c2 V W Y i Z D,c0,ch0⟩ (fun e s=>e= .ret∧∃(j:Nat→Value) (c:Prop) (ch:List (Option Value)),((encL (dL8 (wA .u8 32 TK)) (dL8 (wA .u8 16 D)))=tagL HB TK N A X)∧s=⟨sTgJ_s HB TK N A X a1 a2 t1 t2 b1 b2 l1 c1 l2 c2 V W Y i Z D (encL (dL8 (wA .u8 32 TK)) (dL8 (wA .u8 16 D))) j,sTgJ_m HB TK N A X a1 a2 t1 t2 b1 b2 l1 c1 l2 c2 V W Y i Z D (encL (dL8 (wA .u8 32 TK)) (dL8 (wA .u8 16 D))),c,ch⟩) 2:=by
  refine(runs_ev mixed _ (sTg0bp_0 HB TK N A X a1 a2 t1 t2 b1 b2 l1 c1 l2 c2 V W Y i Z D j) ⟨⟨⟨⟨trivial,trivial⟩,trivial⟩,⟨dq hK,dq (by rw[hD];exact lset_by (xrv_by (by rw[hY];exact absL_by (by rw[hW];exact absL_by (by rw[hV];exact absL_by by_nil)))) (xb _ _ _))⟩⟩,(wA_one _ _ _)⟩).mono ?_
  rintro e s ⟨rfl,hs⟩
  refine⟨rfl,fun q=>s.tm.getD q undef,s.c,s.ch,by rw[encL_q,hD,hY,hW,hV];unfold tagL tsL;rw[show A.length=l1 by rw[← hA];exact hb1.len,show X.length=l2 by rw[← hX];exact hb2.len],?_⟩
  subst hs
  kernel_rfl
theorem sTgu (HB TK N A X:List Int) (a1 a2:Array Value) (t1 t2:Tq) (b1 b2:Option Addr) (l1 c1 l2 c2:Nat) (j:Nat→Value) (hH:By HB) (hK:By TK) (hN:By N) (hb1:BkOk [(a1,t1),(a2,t2)] b1 l1 c1) (hA:bOf [(a1,t1),(a2,t2)] b1 l1=A) (hb2:BkOk [(a1,t1),(a2,t2)] b2 l2 c2) (hX:bOf [(a1,t1),(a2,t2)] b2 l2=X) (hl:l1≤1000000000∧l2≤1000000000)  {c0:Prop} {ch0:List (Option Value)}:Runs Try.prog (cAt [] (bdy Try.f35)) ⟨sTgA_s HB TK N A X a1 a2 t1 t2 b1 b2 l1 c1 l2 c2 j,sTgA_m HB TK N A X a1 a2 t1 t2 b1 b2 l1 c1 l2 c2,c0,ch0⟩ (fun e s=>e= .ret∧∃(i15:Nat) (Z15:List Int) (j:Nat→Value) (c:Prop) (ch:List (Option Value)),((encL (dL8 (wA .u8 32 TK)) (dL8 (wA .u8 16 (lset 16 Z15 15 (bits .andNot .u8 (Z15.getD 15 0) 128)))))=tagL HB TK N A X)∧s=⟨sTgJ_s HB TK N A X a1 a2 t1 t2 b1 b2 l1 c1 l2 c2 (absL (dL8 (wA .u8 16 HB)) (dL8 (wA .u8 16 [])) (bOf [(a1,t1),(a2,t2),((wA .u8 16 HB),(22,(0,0))),((wA .u8 32 TK),(27,(0,0))),((wA .u8 12 N),(28,(0,0))),((wA .u8 16 []),(22,(0,0)))] b1 l1)) (absL (dL8 (wA .u8 16 HB)) (dL8 (wA .u8 16 (absL (dL8 (wA .u8 16 HB)) (dL8 (wA .u8 16 [])) (bOf [(a1,t1),(a2,t2),((wA .u8 16 HB),(22,(0,0))),((wA .u8 32 TK),(27,(0,0))),((wA .u8 12 N),(28,(0,0))),((wA .u8 16 []),(22,(0,0)))] b1 l1)))) (bOf [(a1,t1),(a2,t2),((wA .u8 16 HB),(22,(0,0))),((wA .u8 32 TK),(27,(0,0))),((wA .u8 12 N),(28,(0,0))),((wA .u8 16 []),(22,(0,0))),((wA .u8 16 (absL (dL8 (wA .u8 16 HB)) (dL8 (wA .u8 16 [])) (bOf [(a1,t1),(a2,t2),((wA .u8 16 HB),(22,(0,0))),((wA .u8 32 TK),(27,(0,0))),((wA .u8 12 N),(28,(0,0))),((wA .u8 16 []),(22,(0,0)))] b1 l1))),(22,(0,0)))] b2 l2)) (absL (dL8 (wA .u8 16 HB)) (dL8 (wA .u8 16 (absL (dL8 (wA .u8 16 HB)) (dL8 (wA .u8 16 (absL (dL8 (wA .u8 16 HB)) (dL8 (wA .u8 16 [])) (bOf [(a1,t1),(a2,t2),((wA .u8 16 HB),(22,(0,0))),((wA .u8 32 TK),(27,(0,0))),((wA .u8 12 N),(28,(0,0))),((wA .u8 16 []),(22,(0,0)))] b1 l1)))) (bOf [(a1,t1),(a2,t2),((wA .u8 16 HB),(22,(0,0))),((wA .u8 32 TK),(27,(0,0))),((wA .u8 12 N),(28,(0,0))),((wA .u8 16 []),(22,(0,0))),((wA .u8 16 (absL (dL8 (wA .u8 16 HB)) (dL8 (wA .u8 16 [])) (bOf [(a1,t1),(a2,t2),((wA .u8 16 HB),(22,(0,0))),((wA .u8 32 TK),(27,(0,0))),((wA .u8 12 N),(28,(0,0))),((wA .u8 16 []),(22,(0,0)))] b1 l1))),(22,(0,0)))] b2 l2)))) (bOf [(a1,t1),(a2,t2),((wA .u8 16 HB),(22,(0,0))),((wA .u8 32 TK),(27,(0,0))),((wA .u8 12 N),(28,(0,0))),((wA .u8 16 []),(22,(0,0))),((wA .u8 16 (absL (dL8 (wA .u8 16 HB)) (dL8 (wA .u8 16 (absL (dL8 (wA .u8 16 HB)) (dL8 (wA .u8 16 [])) (bOf [(a1,t1),(a2,t2),((wA .u8 16 HB),(22,(0,0))),((wA .u8 32 TK),(27,(0,0))),((wA .u8 12 N),(28,(0,0))),((wA .u8 16 []),(22,(0,0)))] b1 l1)))) (bOf [(a1,t1),(a2,t2),((wA .u8 16 HB),(22,(0,0))),((wA .u8 32 TK),(27,(0,0))),((wA .u8 12 N),(28,(0,0))),((wA .u8 16 []),(22,(0,0))),((wA .u8 16 (absL (dL8 (wA .u8 16 HB)) (dL8 (wA .u8 16 [])) (bOf [(a1,t1),(a2,t2),((wA .u8 16 HB),(22,(0,0))),((wA .u8 32 TK),(27,(0,0))),((wA .u8 12 N),(28,(0,0))),((wA .u8 16 []),(22,(0,0)))] b1 l1))),(22,(0,0)))] b2 l2))),(22,(0,0))),((wA .u8 16 (jnL ((8*l1:Nat):Int) ((8*l2:Nat):Int))),(22,(0,0)))] (some ⟨7,0,none⟩) 16)) i15 Z15 (lset 16 Z15 15 (bits .andNot .u8 (Z15.getD 15 0) 128)) (encL (dL8 (wA .u8 32 TK)) (dL8 (wA .u8 16 (lset 16 Z15 15 (bits .andNot .u8 (Z15.getD 15 0) 128))))) j,sTgJ_m HB TK N A X a1 a2 t1 t2 b1 b2 l1 c1 l2 c2 (absL (dL8 (wA .u8 16 HB)) (dL8 (wA .u8 16 [])) (bOf [(a1,t1),(a2,t2),((wA .u8 16 HB),(22,(0,0))),((wA .u8 32 TK),(27,(0,0))),((wA .u8 12 N),(28,(0,0))),((wA .u8 16 []),(22,(0,0)))] b1 l1)) (absL (dL8 (wA .u8 16 HB)) (dL8 (wA .u8 16 (absL (dL8 (wA .u8 16 HB)) (dL8 (wA .u8 16 [])) (bOf [(a1,t1),(a2,t2),((wA .u8 16 HB),(22,(0,0))),((wA .u8 32 TK),(27,(0,0))),((wA .u8 12 N),(28,(0,0))),((wA .u8 16 []),(22,(0,0)))] b1 l1)))) (bOf [(a1,t1),(a2,t2),((wA .u8 16 HB),(22,(0,0))),((wA .u8 32 TK),(27,(0,0))),((wA .u8 12 N),(28,(0,0))),((wA .u8 16 []),(22,(0,0))),((wA .u8 16 (absL (dL8 (wA .u8 16 HB)) (dL8 (wA .u8 16 [])) (bOf [(a1,t1),(a2,t2),((wA .u8 16 HB),(22,(0,0))),((wA .u8 32 TK),(27,(0,0))),((wA .u8 12 N),(28,(0,0))),((wA .u8 16 []),(22,(0,0)))] b1 l1))),(22,(0,0)))] b2 l2)) (absL (dL8 (wA .u8 16 HB)) (dL8 (wA .u8 16 (absL (dL8 (wA .u8 16 HB)) (dL8 (wA .u8 16 (absL (dL8 (wA .u8 16 HB)) (dL8 (wA .u8 16 [])) (bOf [(a1,t1),(a2,t2),((wA .u8 16 HB),(22,(0,0))),((wA .u8 32 TK),(27,(0,0))),((wA .u8 12 N),(28,(0,0))),((wA .u8 16 []),(22,(0,0)))] b1 l1)))) (bOf [(a1,t1),(a2,t2),((wA .u8 16 HB),(22,(0,0))),((wA .u8 32 TK),(27,(0,0))),((wA .u8 12 N),(28,(0,0))),((wA .u8 16 []),(22,(0,0))),((wA .u8 16 (absL (dL8 (wA .u8 16 HB)) (dL8 (wA .u8 16 [])) (bOf [(a1,t1),(a2,t2),((wA .u8 16 HB),(22,(0,0))),((wA .u8 32 TK),(27,(0,0))),((wA .u8 12 N),(28,(0,0))),((wA .u8 16 []),(22,(0,0)))] b1 l1))),(22,(0,0)))] b2 l2)))) (bOf [(a1,t1),(a2,t2),((wA .u8 16 HB),(22,(0,0))),((wA .u8 32 TK),(27,(0,0))),((wA .u8 12 N),(28,(0,0))),((wA .u8 16 []),(22,(0,0))),((wA .u8 16 (absL (dL8 (wA .u8 16 HB)) (dL8 (wA .u8 16 (absL (dL8 (wA .u8 16 HB)) (dL8 (wA .u8 16 [])) (bOf [(a1,t1),(a2,t2),((wA .u8 16 HB),(22,(0,0))),((wA .u8 32 TK),(27,(0,0))),((wA .u8 12 N),(28,(0,0))),((wA .u8 16 []),(22,(0,0)))] b1 l1)))) (bOf [(a1,t1),(a2,t2),((wA .u8 16 HB),(22,(0,0))),((wA .u8 32 TK),(27,(0,0))),((wA .u8 12 N),(28,(0,0))),((wA .u8 16 []),(22,(0,0))),((wA .u8 16 (absL (dL8 (wA .u8 16 HB)) (dL8 (wA .u8 16 [])) (bOf [(a1,t1),(a2,t2),((wA .u8 16 HB),(22,(0,0))),((wA .u8 32 TK),(27,(0,0))),((wA .u8 12 N),(28,(0,0))),((wA .u8 16 []),(22,(0,0)))] b1 l1))),(22,(0,0)))] b2 l2))),(22,(0,0))),((wA .u8 16 (jnL ((8*l1:Nat):Int) ((8*l2:Nat):Int))),(22,(0,0)))] (some ⟨7,0,none⟩) 16)) i15 Z15 (lset 16 Z15 15 (bits .andNot .u8 (Z15.getD 15 0) 128)) (encL (dL8 (wA .u8 32 TK)) (dL8 (wA .u8 16 (lset 16 Z15 15 (bits .andNot .u8 (Z15.getD 15 0) 128))))),c,ch⟩) 2:=by
  rw[show(cAt [] (bdy Try.f35))=(.seq (cAt [0] (bdy Try.f35)) (.seq (cAt [1,0] (bdy Try.f35)) (.seq (cAt [1,1,0] (bdy Try.f35)) (.seq (cAt [1,1,1,0] (bdy Try.f35)) (.seq (cAt [1,1,1,1,0] (bdy Try.f35)) (.seq (cAt [1,1,1,1,1,0] (bdy Try.f35)) (.seq (cAt [1,1,1,1,1,1,0] (bdy Try.f35)) (cAt [1,1,1,1,1,1,1] (bdy Try.f35))))))))) from by kernel_rfl]
  refine runs_seq (sTg0 HB TK N A X a1 a2 t1 t2 b1 b2 l1 c1 l2 c2 j hH hK hN hb1 hA hb2 hX hl ) (fun s hh=> ?_) (fun e s hne hh=>absurd hh.1 hne)
  obtain⟨_,j,c,ch,rfl⟩:=hh
  refine runs_seq (sTg1 HB TK N A X a1 a2 t1 t2 b1 b2 l1 c1 l2 c2 j hH hK hN hb1 hA hb2 hX hl ) (fun s hh=> ?_) (fun e s hne hh=>absurd hh.1 hne)
  obtain⟨_,j,c,ch,f1_8,rfl⟩:=hh
  refine runs_seq (sTg2 HB TK N A X a1 a2 t1 t2 b1 b2 l1 c1 l2 c2 (absL (dL8 (wA .u8 16 HB)) (dL8 (wA .u8 16 [])) (bOf [(a1,t1),(a2,t2),((wA .u8 16 HB),(22,(0,0))),((wA .u8 32 TK),(27,(0,0))),((wA .u8 12 N),(28,(0,0))),((wA .u8 16 []),(22,(0,0)))] b1 l1)) j hH hK hN hb1 hA hb2 hX hl f1_8 ) (fun s hh=> ?_) (fun e s hne hh=>absurd hh.1 hne)
  obtain⟨_,j,c,ch,f2_9,rfl⟩:=hh
  refine runs_seq (sTg3 HB TK N A X a1 a2 t1 t2 b1 b2 l1 c1 l2 c2 (absL (dL8 (wA .u8 16 HB)) (dL8 (wA .u8 16 [])) (bOf [(a1,t1),(a2,t2),((wA .u8 16 HB),(22,(0,0))),((wA .u8 32 TK),(27,(0,0))),((wA .u8 12 N),(28,(0,0))),((wA .u8 16 []),(22,(0,0)))] b1 l1)) (absL (dL8 (wA .u8 16 HB)) (dL8 (wA .u8 16 (absL (dL8 (wA .u8 16 HB)) (dL8 (wA .u8 16 [])) (bOf [(a1,t1),(a2,t2),((wA .u8 16 HB),(22,(0,0))),((wA .u8 32 TK),(27,(0,0))),((wA .u8 12 N),(28,(0,0))),((wA .u8 16 []),(22,(0,0)))] b1 l1)))) (bOf [(a1,t1),(a2,t2),((wA .u8 16 HB),(22,(0,0))),((wA .u8 32 TK),(27,(0,0))),((wA .u8 12 N),(28,(0,0))),((wA .u8 16 []),(22,(0,0))),((wA .u8 16 (absL (dL8 (wA .u8 16 HB)) (dL8 (wA .u8 16 [])) (bOf [(a1,t1),(a2,t2),((wA .u8 16 HB),(22,(0,0))),((wA .u8 32 TK),(27,(0,0))),((wA .u8 12 N),(28,(0,0))),((wA .u8 16 []),(22,(0,0)))] b1 l1))),(22,(0,0)))] b2 l2)) j hH hK hN hb1 hA hb2 hX hl f1_8 f2_9 ) (fun s hh=> ?_) (fun e s hne hh=>absurd hh.1 hne)
  obtain⟨_,j,c,ch,rfl⟩:=hh
  refine runs_seq (sTg4 HB TK N A X a1 a2 t1 t2 b1 b2 l1 c1 l2 c2 (absL (dL8 (wA .u8 16 HB)) (dL8 (wA .u8 16 [])) (bOf [(a1,t1),(a2,t2),((wA .u8 16 HB),(22,(0,0))),((wA .u8 32 TK),(27,(0,0))),((wA .u8 12 N),(28,(0,0))),((wA .u8 16 []),(22,(0,0)))] b1 l1)) (absL (dL8 (wA .u8 16 HB)) (dL8 (wA .u8 16 (absL (dL8 (wA .u8 16 HB)) (dL8 (wA .u8 16 [])) (bOf [(a1,t1),(a2,t2),((wA .u8 16 HB),(22,(0,0))),((wA .u8 32 TK),(27,(0,0))),((wA .u8 12 N),(28,(0,0))),((wA .u8 16 []),(22,(0,0)))] b1 l1)))) (bOf [(a1,t1),(a2,t2),((wA .u8 16 HB),(22,(0,0))),((wA .u8 32 TK),(27,(0,0))),((wA .u8 12 N),(28,(0,0))),((wA .u8 16 []),(22,(0,0))),((wA .u8 16 (absL (dL8 (wA .u8 16 HB)) (dL8 (wA .u8 16 [])) (bOf [(a1,t1),(a2,t2),((wA .u8 16 HB),(22,(0,0))),((wA .u8 32 TK),(27,(0,0))),((wA .u8 12 N),(28,(0,0))),((wA .u8 16 []),(22,(0,0)))] b1 l1))),(22,(0,0)))] b2 l2)) j hH hK hN hb1 hA hb2 hX hl f1_8 f2_9 ) (fun s hh=> ?_) (fun e s hne hh=>absurd hh.1 hne)
  obtain⟨_,j,c,ch,f4_10,rfl⟩:=hh
  refine runs_seq (sTg9 HB TK N A X a1 a2 t1 t2 b1 b2 l1 c1 l2 c2 (absL (dL8 (wA .u8 16 HB)) (dL8 (wA .u8 16 [])) (bOf [(a1,t1),(a2,t2),((wA .u8 16 HB),(22,(0,0))),((wA .u8 32 TK),(27,(0,0))),((wA .u8 12 N),(28,(0,0))),((wA .u8 16 []),(22,(0,0)))] b1 l1)) (absL (dL8 (wA .u8 16 HB)) (dL8 (wA .u8 16 (absL (dL8 (wA .u8 16 HB)) (dL8 (wA .u8 16 [])) (bOf [(a1,t1),(a2,t2),((wA .u8 16 HB),(22,(0,0))),((wA .u8 32 TK),(27,(0,0))),((wA .u8 12 N),(28,(0,0))),((wA .u8 16 []),(22,(0,0)))] b1 l1)))) (bOf [(a1,t1),(a2,t2),((wA .u8 16 HB),(22,(0,0))),((wA .u8 32 TK),(27,(0,0))),((wA .u8 12 N),(28,(0,0))),((wA .u8 16 []),(22,(0,0))),((wA .u8 16 (absL (dL8 (wA .u8 16 HB)) (dL8 (wA .u8 16 [])) (bOf [(a1,t1),(a2,t2),((wA .u8 16 HB),(22,(0,0))),((wA .u8 32 TK),(27,(0,0))),((wA .u8 12 N),(28,(0,0))),((wA .u8 16 []),(22,(0,0)))] b1 l1))),(22,(0,0)))] b2 l2)) (absL (dL8 (wA .u8 16 HB)) (dL8 (wA .u8 16 (absL (dL8 (wA .u8 16 HB)) (dL8 (wA .u8 16 (absL (dL8 (wA .u8 16 HB)) (dL8 (wA .u8 16 [])) (bOf [(a1,t1),(a2,t2),((wA .u8 16 HB),(22,(0,0))),((wA .u8 32 TK),(27,(0,0))),((wA .u8 12 N),(28,(0,0))),((wA .u8 16 []),(22,(0,0)))] b1 l1)))) (bOf [(a1,t1),(a2,t2),((wA .u8 16 HB),(22,(0,0))),((wA .u8 32 TK),(27,(0,0))),((wA .u8 12 N),(28,(0,0))),((wA .u8 16 []),(22,(0,0))),((wA .u8 16 (absL (dL8 (wA .u8 16 HB)) (dL8 (wA .u8 16 [])) (bOf [(a1,t1),(a2,t2),((wA .u8 16 HB),(22,(0,0))),((wA .u8 32 TK),(27,(0,0))),((wA .u8 12 N),(28,(0,0))),((wA .u8 16 []),(22,(0,0)))] b1 l1))),(22,(0,0)))] b2 l2)))) (bOf [(a1,t1),(a2,t2),((wA .u8 16 HB),(22,(0,0))),((wA .u8 32 TK),(27,(0,0))),((wA .u8 12 N),(28,(0,0))),((wA .u8 16 []),(22,(0,0))),((wA .u8 16 (absL (dL8 (wA .u8 16 HB)) (dL8 (wA .u8 16 (absL (dL8 (wA .u8 16 HB)) (dL8 (wA .u8 16 [])) (bOf [(a1,t1),(a2,t2),((wA .u8 16 HB),(22,(0,0))),((wA .u8 32 TK),(27,(0,0))),((wA .u8 12 N),(28,(0,0))),((wA .u8 16 []),(22,(0,0)))] b1 l1)))) (bOf [(a1,t1),(a2,t2),((wA .u8 16 HB),(22,(0,0))),((wA .u8 32 TK),(27,(0,0))),((wA .u8 12 N),(28,(0,0))),((wA .u8 16 []),(22,(0,0))),((wA .u8 16 (absL (dL8 (wA .u8 16 HB)) (dL8 (wA .u8 16 [])) (bOf [(a1,t1),(a2,t2),((wA .u8 16 HB),(22,(0,0))),((wA .u8 32 TK),(27,(0,0))),((wA .u8 12 N),(28,(0,0))),((wA .u8 16 []),(22,(0,0)))] b1 l1))),(22,(0,0)))] b2 l2))),(22,(0,0))),((wA .u8 16 (jnL ((8*l1:Nat):Int) ((8*l2:Nat):Int))),(22,(0,0)))] (some ⟨7,0,none⟩) 16)) j hH hK hN hb1 hA hb2 hX hl f1_8 f2_9 f4_10 ) (fun s hh=> ?_) (fun e s hne hh=>absurd hh.1 hne)
  obtain⟨_,i15,Z15,j,c,ch,f5_11,rfl⟩:=hh
  refine runs_seq (sTg0a HB TK N A X a1 a2 t1 t2 b1 b2 l1 c1 l2 c2 (absL (dL8 (wA .u8 16 HB)) (dL8 (wA .u8 16 [])) (bOf [(a1,t1),(a2,t2),((wA .u8 16 HB),(22,(0,0))),((wA .u8 32 TK),(27,(0,0))),((wA .u8 12 N),(28,(0,0))),((wA .u8 16 []),(22,(0,0)))] b1 l1)) (absL (dL8 (wA .u8 16 HB)) (dL8 (wA .u8 16 (absL (dL8 (wA .u8 16 HB)) (dL8 (wA .u8 16 [])) (bOf [(a1,t1),(a2,t2),((wA .u8 16 HB),(22,(0,0))),((wA .u8 32 TK),(27,(0,0))),((wA .u8 12 N),(28,(0,0))),((wA .u8 16 []),(22,(0,0)))] b1 l1)))) (bOf [(a1,t1),(a2,t2),((wA .u8 16 HB),(22,(0,0))),((wA .u8 32 TK),(27,(0,0))),((wA .u8 12 N),(28,(0,0))),((wA .u8 16 []),(22,(0,0))),((wA .u8 16 (absL (dL8 (wA .u8 16 HB)) (dL8 (wA .u8 16 [])) (bOf [(a1,t1),(a2,t2),((wA .u8 16 HB),(22,(0,0))),((wA .u8 32 TK),(27,(0,0))),((wA .u8 12 N),(28,(0,0))),((wA .u8 16 []),(22,(0,0)))] b1 l1))),(22,(0,0)))] b2 l2)) (absL (dL8 (wA .u8 16 HB)) (dL8 (wA .u8 16 (absL (dL8 (wA .u8 16 HB)) (dL8 (wA .u8 16 (absL (dL8 (wA .u8 16 HB)) (dL8 (wA .u8 16 [])) (bOf [(a1,t1),(a2,t2),((wA .u8 16 HB),(22,(0,0))),((wA .u8 32 TK),(27,(0,0))),((wA .u8 12 N),(28,(0,0))),((wA .u8 16 []),(22,(0,0)))] b1 l1)))) (bOf [(a1,t1),(a2,t2),((wA .u8 16 HB),(22,(0,0))),((wA .u8 32 TK),(27,(0,0))),((wA .u8 12 N),(28,(0,0))),((wA .u8 16 []),(22,(0,0))),((wA .u8 16 (absL (dL8 (wA .u8 16 HB)) (dL8 (wA .u8 16 [])) (bOf [(a1,t1),(a2,t2),((wA .u8 16 HB),(22,(0,0))),((wA .u8 32 TK),(27,(0,0))),((wA .u8 12 N),(28,(0,0))),((wA .u8 16 []),(22,(0,0)))] b1 l1))),(22,(0,0)))] b2 l2)))) (bOf [(a1,t1),(a2,t2),((wA .u8 16 HB),(22,(0,0))),((wA .u8 32 TK),(27,(0,0))),((wA .u8 12 N),(28,(0,0))),((wA .u8 16 []),(22,(0,0))),((wA .u8 16 (absL (dL8 (wA .u8 16 HB)) (dL8 (wA .u8 16 (absL (dL8 (wA .u8 16 HB)) (dL8 (wA .u8 16 [])) (bOf [(a1,t1),(a2,t2),((wA .u8 16 HB),(22,(0,0))),((wA .u8 32 TK),(27,(0,0))),((wA .u8 12 N),(28,(0,0))),((wA .u8 16 []),(22,(0,0)))] b1 l1)))) (bOf [(a1,t1),(a2,t2),((wA .u8 16 HB),(22,(0,0))),((wA .u8 32 TK),(27,(0,0))),((wA .u8 12 N),(28,(0,0))),((wA .u8 16 []),(22,(0,0))),((wA .u8 16 (absL (dL8 (wA .u8 16 HB)) (dL8 (wA .u8 16 [])) (bOf [(a1,t1),(a2,t2),((wA .u8 16 HB),(22,(0,0))),((wA .u8 32 TK),(27,(0,0))),((wA .u8 12 N),(28,(0,0))),((wA .u8 16 []),(22,(0,0)))] b1 l1))),(22,(0,0)))] b2 l2))),(22,(0,0))),((wA .u8 16 (jnL ((8*l1:Nat):Int) ((8*l2:Nat):Int))),(22,(0,0)))] (some ⟨7,0,none⟩) 16)) i15 Z15 j hH hK hN hb1 hA hb2 hX hl f1_8 f2_9 f4_10 f5_11 ) (fun s hh=> ?_) (fun e s hne hh=>absurd hh.1 hne)
  obtain⟨_,j,c,ch,f6_11,rfl⟩:=hh
  refine(sTg0b HB TK N A X a1 a2 t1 t2 b1 b2 l1 c1 l2 c2 (absL (dL8 (wA .u8 16 HB)) (dL8 (wA .u8 16 [])) (bOf [(a1,t1),(a2,t2),((wA .u8 16 HB),(22,(0,0))),((wA .u8 32 TK),(27,(0,0))),((wA .u8 12 N),(28,(0,0))),((wA .u8 16 []),(22,(0,0)))] b1 l1)) (absL (dL8 (wA .u8 16 HB)) (dL8 (wA .u8 16 (absL (dL8 (wA .u8 16 HB)) (dL8 (wA .u8 16 [])) (bOf [(a1,t1),(a2,t2),((wA .u8 16 HB),(22,(0,0))),((wA .u8 32 TK),(27,(0,0))),((wA .u8 12 N),(28,(0,0))),((wA .u8 16 []),(22,(0,0)))] b1 l1)))) (bOf [(a1,t1),(a2,t2),((wA .u8 16 HB),(22,(0,0))),((wA .u8 32 TK),(27,(0,0))),((wA .u8 12 N),(28,(0,0))),((wA .u8 16 []),(22,(0,0))),((wA .u8 16 (absL (dL8 (wA .u8 16 HB)) (dL8 (wA .u8 16 [])) (bOf [(a1,t1),(a2,t2),((wA .u8 16 HB),(22,(0,0))),((wA .u8 32 TK),(27,(0,0))),((wA .u8 12 N),(28,(0,0))),((wA .u8 16 []),(22,(0,0)))] b1 l1))),(22,(0,0)))] b2 l2)) (absL (dL8 (wA .u8 16 HB)) (dL8 (wA .u8 16 (absL (dL8 (wA .u8 16 HB)) (dL8 (wA .u8 16 (absL (dL8 (wA .u8 16 HB)) (dL8 (wA .u8 16 [])) (bOf [(a1,t1),(a2,t2),((wA .u8 16 HB),(22,(0,0))),((wA .u8 32 TK),(27,(0,0))),((wA .u8 12 N),(28,(0,0))),((wA .u8 16 []),(22,(0,0)))] b1 l1)))) (bOf [(a1,t1),(a2,t2),((wA .u8 16 HB),(22,(0,0))),((wA .u8 32 TK),(27,(0,0))),((wA .u8 12 N),(28,(0,0))),((wA .u8 16 []),(22,(0,0))),((wA .u8 16 (absL (dL8 (wA .u8 16 HB)) (dL8 (wA .u8 16 [])) (bOf [(a1,t1),(a2,t2),((wA .u8 16 HB),(22,(0,0))),((wA .u8 32 TK),(27,(0,0))),((wA .u8 12 N),(28,(0,0))),((wA .u8 16 []),(22,(0,0)))] b1 l1))),(22,(0,0)))] b2 l2)))) (bOf [(a1,t1),(a2,t2),((wA .u8 16 HB),(22,(0,0))),((wA .u8 32 TK),(27,(0,0))),((wA .u8 12 N),(28,(0,0))),((wA .u8 16 []),(22,(0,0))),((wA .u8 16 (absL (dL8 (wA .u8 16 HB)) (dL8 (wA .u8 16 (absL (dL8 (wA .u8 16 HB)) (dL8 (wA .u8 16 [])) (bOf [(a1,t1),(a2,t2),((wA .u8 16 HB),(22,(0,0))),((wA .u8 32 TK),(27,(0,0))),((wA .u8 12 N),(28,(0,0))),((wA .u8 16 []),(22,(0,0)))] b1 l1)))) (bOf [(a1,t1),(a2,t2),((wA .u8 16 HB),(22,(0,0))),((wA .u8 32 TK),(27,(0,0))),((wA .u8 12 N),(28,(0,0))),((wA .u8 16 []),(22,(0,0))),((wA .u8 16 (absL (dL8 (wA .u8 16 HB)) (dL8 (wA .u8 16 [])) (bOf [(a1,t1),(a2,t2),((wA .u8 16 HB),(22,(0,0))),((wA .u8 32 TK),(27,(0,0))),((wA .u8 12 N),(28,(0,0))),((wA .u8 16 []),(22,(0,0)))] b1 l1))),(22,(0,0)))] b2 l2))),(22,(0,0))),((wA .u8 16 (jnL ((8*l1:Nat):Int) ((8*l2:Nat):Int))),(22,(0,0)))] (some ⟨7,0,none⟩) 16)) i15 Z15 (lset 16 Z15 15 (bits .andNot .u8 (Z15.getD 15 0) 128)) j hH hK hN hb1 hA hb2 hX hl f1_8 f2_9 f4_10 f6_11 ).mono ?_
  rintro e s ⟨rfl,j,c,ch,f7_0,rfl⟩
  exact⟨rfl,i15,Z15,j,c,ch,f7_0,rfl⟩
theorem BkOk.okp {mem:List Mb} {bp:Option Addr} {r q:Nat} (h:BkOk mem bp r q):okp mem.length (.slice bp r q)=true:=by
  obtain⟨_,⟨rfl,_⟩|⟨i,o,a,t,rfl,hm,_,_⟩⟩:=h
  · rfl
  · simp only [Go.Ev.okp, Bool.or_eq_true, decide_eq_true_eq]
    exact .inl (List.getElem?_eq_some_iff.1 hm).1
theorem BkOk.lift {m:Mb} {g:List Mb} {bp:Option Addr} {r q:Nat} (h:BkOk (m :: g) bp r q) (k:Nat):∃(i:Nat) (x:Mb) (bq:Option Addr),(m :: g)[i]? =some x∧(∀ β β':Nat→Nat,β' k=β i→rn β' (.slice bq r q)=rn β (.slice bp r q))∧∀ M:List Mb,M[k]? =some x→BkOk M bq r q∧bOf M bq r=bOf (m :: g) bp r:=by
  obtain⟨hq,⟨rfl,rfl,h0⟩|⟨i,o,a,t,rfl,hm,hb,hz⟩⟩:=h
  · exact⟨0,m,none,rfl,fun _ _ _=>rfl,fun M _=>⟨⟨hq,.inl ⟨rfl,rfl,h0⟩⟩,rfl⟩⟩
  · exact⟨i,(a,t),some ⟨k,o,none⟩,hm,fun β β' e=>by simp only[rn,e],fun M hM=>⟨⟨hq,.inr ⟨k,o,a,t,rfl,hM,hb,hz⟩⟩,by simp only[bOf,hM,hm]⟩⟩
theorem sTg_c (HB TK N:List Int) (a1 a2:Array Value) (t1 t2:Tq) (b1 b2:Option Addr) (l1 c1 l2 c2:Nat) (hH:By HB) (hK:By TK) (hN:By N) (hb1:BkOk [(a1,t1),(a2,t2)] b1 l1 c1) (hb2:BkOk [(a1,t1),(a2,t2)] b2 l2 c2) (hl:l1≤1000000000∧l2≤1000000000):Reads Try.prog 35 [(a1,t1),(a2,t2)] [.agg (wA .u8 16 HB),.agg (wA .u8 32 TK),.agg (wA .u8 12 N),.slice b1 l1 c1,.slice b2 l2 c2] (.agg (wA .u8 16 (tagL HB TK N (bOf [(a1,t1),(a2,t2)] b1 l1) (bOf [(a1,t1),(a2,t2)] b2 l2)))):=by
  have ha: [Value.agg (wA .u8 16 HB),.agg (wA .u8 32 TK),.agg (wA .u8 12 N),.slice b1 l1 c1,.slice b2 l2 c2].all (okp (2%big))=true:=by
    have h1:Go.Ev.okp 2 (.slice b1 l1 c1)=true:=hb1.okp
    have h2:Go.Ev.okp 2 (.slice b2 l2 c2)=true:=hb2.okp
    show(true && (true && (true && (Go.Ev.okp 2 (.slice b1 l1 c1) && (Go.Ev.okp 2 (.slice b2 l2 c2) && true)))))=true
    rw[h1,h2];rfl
  refine reads_runs (fk:=2) (yty.enf tabW2 2) Try.func35 (c:=bdy Try.f35) (by kernel_rfl) ⟨by rfl,by decide⟩ (args:= [.agg (wA .u8 16 HB),.agg (wA .u8 32 TK),.agg (wA .u8 12 N),.slice b1 l1 c1,.slice b2 l2 c2]) ha (K:=fun e s=>e= .ret∧resS (yty.enf tabW2 2) s Try.f35.results.toList=some [.agg (wA .u8 16 (tagL HB TK N (bOf [(a1,t1),(a2,t2)] b1 l1) (bOf [(a1,t1),(a2,t2)] b2 l2)))]) ?_ (fun e s h=>⟨h.1,_,h.2,rfl⟩)
  refine(sTgu HB TK N _ _ a1 a2 t1 t2 b1 b2 l1 c1 l2 c2 (fun _=>undef) hH hK hN hb1 rfl hb2 rfl hl).mono ?_
  rintro e s ⟨rfl,i,Z,j,c,ch,hE,rfl⟩
  rw[← hE]
  exact⟨rfl,by kernel_rfl⟩
def ptg : Entry Try.prog where
  f:=35
  g := fun mem xs => match mem, xs with
    |m :: g,[.agg h,.agg k,.agg n,.slice b1 l1 c1,.slice b2 l2 c2]=>some (.agg (wA .u8 16 (tagL (dL8 h) (dL8 k) (dL8 n) (bOf (m :: g) b1 l1) (bOf (m :: g) b2 l2))),(((h=wA .u8 16 (dL8 h)∧By (dL8 h))∧(k=wA .u8 32 (dL8 k)∧By (dL8 k))∧(n=wA .u8 12 (dL8 n)∧By (dL8 n)))∧(BkOk (m :: g) b1 l1 c1∧BkOk (m :: g) b2 l2 c2)∧l1≤1000000000∧l2≤1000000000))
    |_,_=>none
  ok := fun mem xs v c e hc w β hw _ => by
    split at e
    · rename_i m g h k n b1 l1 c1 b2 l2 c2
      simp only[Option.some.injEq,Prod.mk.injEq] at e
      obtain⟨rfl,rfl⟩:=e
      obtain⟨⟨⟨h1,h2⟩,⟨h3,h4⟩,h5,h6⟩,⟨hb1,hb2⟩,hl⟩:=hc
      obtain⟨i1,x1,q1,hm1,hr1,hB1⟩:=hb1.lift 0
      obtain⟨i2,x2,q2,hm2,hr2,hB2⟩:=hb2.lift 1
      obtain⟨a1,t1⟩:=x1
      obtain⟨a2,t2⟩:=x2
      obtain⟨B1,E1⟩:=hB1 [(a1,t1),(a2,t2)] rfl
      obtain⟨B2,E2⟩:=hB2 [(a1,t1),(a2,t2)] rfl
      have := sTg_c (dL8 h) (dL8 k) (dL8 n) a1 a2 t1 t2 q1 q2 l1 c1 l2 c2 h2 h4 h6 B1 B2 hl w (fun k => if k = 0 then β i1 else β i2) (fun k x hx => by
        match k,hx with
        | 0, hx =>
          simp only[List.getElem?_cons_zero,Option.some.injEq] at hx
          subst hx
          exact hw i1 _ hm1
        | 1, hx =>
          simp only[List.getElem?_cons_succ,List.getElem?_cons_zero,Option.some.injEq] at hx
          subst hx
          exact hw i2 _ hm2
        |q+2,hx=>simp at hx) (fun i hi=>by omega)
      rw[E1,E2,← h1,← h3,← h5] at this
      simp only[List.map_cons,List.map_nil,hr1 β (fun k=>if k=0 then β i1 else β i2) rfl,hr2 β (fun k=>if k=0 then β i1 else β i2) rfl] at this
      exact this
    · cases e
  call:=call_of Try.func35 (by kernel_rfl) (by kernel_rfl)
def tabW3:List (Entry Try.prog):=ptg :: tabW2
end Go.Proofs.Ytnadkbniljejfaa
