import Derived.Test.YthldpfindbhkeaaZSPvalSiA1
set_option linter.unusedSimpArgs false
set_option linter.unusedVariables false
/-! siv: bytes absorbed. -/
namespace Go.Proofs.Ythldpfindbhkeaa
open Go.RowKit Go.Ev
def Bk (a:Array Value) (bp:Option Addr) (r q:Nat):Prop:=r≤q∧((bp=none∧r=0∧q=0)∨∃ p,bp=some ⟨0,p,none⟩∧bytesAt a p r∧p+r≤a.size)
def bO (a:Array Value) (bp:Option Addr) (r:Nat):List Int:=match bp with
  |some A=>bL a A.off r
  |none=> []
theorem xor0 {x:Int} (h:0≤x∧x<256):bits .xor .u8 x 0=x:=by
  have h':∀ x:Fin 256,bits .xor .u8 ((x.1:Nat):Int) 0=((x.1:Nat):Int):=by decide+kernel
  have:=h' ⟨x.toNat,by omega⟩
  simp only at this
  rwa[show((x.toNat:Nat):Int)=x by omega] at this
def xr (S B:List Int):List Int:=(List.range 16).map fun i=>bits .xor .u8 (S.getD i 0) (B.getD i 0)
theorem xr_by (S B:List Int):By (xr S B):=by_ofFn fun _ _=>xb _ _ _
def absN (H:List Int):Nat→List Int→List Int→List Int
  |0,S,_=>S
  |n+1,S,L=>absN H n (dotL (xr S L) H) (L.drop 16)
def absL (H S L:List Int):List Int:=absN H ((L.length+15) / 16) (dL8 (wA .u8 16 S)) L
theorem absN_n (H S L:List Int) (k:Nat):wA .u8 16 (absN H k (dL8 (wA .u8 16 S)) L)=wA .u8 16 (absN H k S L):=by
  cases k with
  |zero=>exact(dL8_self 16 S).symm
  | succ k =>
    have e:xr (dL8 (wA .u8 16 S)) L=xr S L:=List.map_congr_left fun i hi=>by
      have hi:i<16:=by simpa using hi
      rw[dL8_wA,if_pos hi]
    rw[absN,absN,e]
theorem absN_w (H:List Int):∀(k:Nat) (S L:List Int),absN (dL8 (wA .u8 16 H)) k S L=absN H k S L
  |0,_,_=>rfl
  |k+1,S,L=>by rw[absN,absN,dotL_w2,absN_w H k]
theorem absL_w (H S L:List Int):absL (dL8 (wA .u8 16 H)) (dL8 (wA .u8 16 S)) L=absL H S L:=by
  unfold absL
  rw[absN_w,← dL8_self 16 S]
theorem absL_w1 (H S L:List Int):absL H (dL8 (wA .u8 16 S)) L=absL H S L:=by
  unfold absL
  rw[← dL8_self 16 S]
theorem absN_by {H:List Int}:∀(n:Nat) {S L:List Int},By S→By (absN H n S L)
  |0,_,_,h=>h
  |n+1,S,L,_=>absN_by n (dotL_by _ _)
theorem absL_by {H S L:List Int} (h:By S):By (absL H S L):=absN_by _ (by_dL8 h)
def xrn (S:List Int) (a:Array Value) (p i:Nat):List Int:=(List.range 16).map fun k=>if k<i then bits .xor .u8 (S.getD k 0) (iat a (p+k)) else S.getD k 0
theorem xrn_0 (S:List Int) (a:Array Value) (p:Nat):wA .u8 16 S=wA .u8 16 (xrn S a p 0):=by
  refine wA_ext (wA_size _ _ _) (fun i hi=> ?_)
  unfold xrn
  rw[wA_at hi,ofFn_at hi,if_neg (by omega)]
theorem xrn_step {S Z:List Int} {a:Array Value} {p i:Nat} (hi:i<16) (hZ:Z=xrn S a p i):lset 16 Z i (bits .xor .u8 (Z.getD i 0) (iat a (p+i)))=xrn S a p (i+1):=by
  subst hZ
  unfold lset
  refine List.map_congr_left fun k hk=> ?_
  have hk:k<16:=by simpa using hk
  by_cases e:k=i
  · subst e
    unfold xrn
    rw[if_pos rfl,if_pos (by omega),ofFn_at hk,if_neg (by omega)]
  · rw [if_neg e]
    unfold xrn
    rw[ofFn_at hk]
    by_cases h:k<i
    · rw[if_pos h,if_pos (by omega)]
    · rw[if_neg h,if_neg (by omega)]
theorem xrn_end {S:List Int} {a:Array Value} {p r n:Nat} (hS:By S) (hn:n=Nat.min 16 r):xrn S a p n=xr S (bL a p r):=by
  refine List.map_congr_left fun k hk=> ?_
  have hk:k<16:=by simpa using hk
  have hm:n=min 16 r:=hn
  rw[bL_at]
  by_cases h:k<n
  · rw[if_pos h,if_pos (by omega)]
  · rw[if_neg h,if_neg (by omega),xor0 (hS k)]
theorem abs_step {H S R:List Int} {a:Array Value} {p p' q r n:Nat} (hr:0<r) (hq:r≤q) (hn:n=Nat.min 16 r) (hp:p'=if q=n then p else p+n*1) (hR:absN H ((r+15) / 16) S (bL a p r)=R):absN H ((r - n+15) / 16) (dotL (xr S (bL a p r)) H) (bL a p' (r - n))=R:=by
  have hm:n=min 16 r:=hn
  have e:(r+15) / 16=(r - n+15) / 16+1:=by omega
  rw[e] at hR
  rw[← hR,absN]
  congr 1
  unfold bL
  rw[← List.map_drop]
  by_cases h:r≤16
  · rw[show r - n=0 by omega,List.drop_eq_nil_of_le (by simp;omega)];rfl
  · rw [hp, if_neg (by omega)]
    apply List.ext_getElem?
    intro i
    simp only[List.getElem?_map,List.getElem?_drop]
    by_cases hi:i<r - n
    · rw [List.getElem?_range hi, List.getElem?_range (by omega)]
      simp only[Option.map_some]
      congr 2;omega
    · rw[List.getElem?_eq_none (by simp;omega),List.getElem?_eq_none (by simp;omega)];rfl
def sAbA_h (i:Nat):Hn:=⟨0,[],[],[],[]⟩
abbrev sAbA_R (w:List Nat) (S:FS) (e:Exit) (K:FS→Prop):Prop:=Rn Try.prog (cAt w (bdy Try.f30)) S e K 1
structure sAbA_c (a:Array Value) (t:Tq) (H R:List Int) (bp:Option Addr) (r q:Nat) (S:List Int):Prop where
  hH:By H
  hS:By S
  hb:Bk a bp r q
  hr:r≤1000000000
  hR:absN H ((r+15) / 16) S (bO a bp r)=R
variable {a:Array Value} {t:Tq} {H R:List Int} {bp:Option Addr} {r q:Nat} {S:List Int} {k_1:sAbA_c a t H R bp r q S}
abbrev sAbA (_:sAbA_c a t H R bp r q S):FS:=⟨true,39,[(0,.agg (wA .u8 16 S)),(1,.agg (wA .u8 16 H)),(2,.slice bp r q)],[(a,t)]⟩
abbrev sAbB (_:sAbA_c a t H R bp r q S):FS:=⟨false,39,[(2,.slice bp r q),(3,.pointer (some ⟨1,0,none⟩)),(4,.pointer (some ⟨2,0,none⟩)),(6,.pointer (some ⟨3,0,none⟩))],[(a,t),((wA .u8 16 S),(22,(0,0))),((wA .u8 16 H),(22,(0,0))),((wA .u8 16 []),(22,(0,0)))]⟩
theorem sAb0:sAbA_R [0] (sAbA k_1) .normal (fun z_=>z_=sAbB k_1):=by
  exact rn_ev (yty.enf tabW1 1) sAbA_h mixed _ none [] [] 0 (fun j M=>by kernel_rfl) A0 rfl
structure sAbC_c (a:Array Value) (t:Tq) (H R:List Int) (p r q:Nat) (S:List Int):Prop where
  hH:By H
  hS:By S
  hb:bytesAt a p r
  hz:p+r≤a.size
  hq:r≤q
  hr:r≤1000000000
  hpos:0<r
  hR:absN H ((r+15) / 16) S (bL a p r)=R
variable {p:Nat} {k_2:sAbC_c a t H R p r q S}
abbrev sAbC (_:sAbC_c a t H R p r q S):FS:=⟨false,39,[(2,.slice (some ⟨0,p,none⟩) r q),(3,.pointer (some ⟨1,0,none⟩)),(4,.pointer (some ⟨2,0,none⟩)),(6,.pointer (some ⟨3,0,none⟩))],[(a,t),((wA .u8 16 S),(22,(0,0))),((wA .u8 16 H),(22,(0,0))),((wA .u8 16 []),(22,(0,0)))]⟩
theorem sAb1:sAbA_R [1,0,0,0,0] (sAbC k_2) .normal (fun z_=>z_=sAbC k_2):=by
  have⟨hH,hS,hb,hz,hq,hr,hpos,hR⟩:=id k_2
  exact rn_ev (yty.enf tabW1 1) sAbA_h mixed _ none [some (.bool true)] [(5,(decide (0<((r:Nat):Int)))=true)] 0 (fun j M=>by kernel_rfl) (A1 (decide_eq_true (by omega)) A0) rfl
structure sAbD_c (_:sAbC_c a t H R p r q S) (n:Nat):Prop where
  hn:n=Nat.min 16 r
variable {n:Nat} {k_3:sAbD_c k_2 n}
abbrev sAbD (_:sAbD_c k_2 n):FS:=⟨false,39,[(2,.slice (some ⟨0,p,none⟩) r q),(3,.pointer (some ⟨1,0,none⟩)),(4,.pointer (some ⟨2,0,none⟩)),(6,.pointer (some ⟨3,0,none⟩)),(7,.int .i64 ((n:Nat):Int))],[(a,t),((wA .u8 16 S),(22,(0,0))),((wA .u8 16 H),(22,(0,0))),((wA .u8 16 []),(22,(0,0)))]⟩
theorem sAb2:sAbA_R [1,0,0,0,1,0,0] (sAbC k_2) .normal (fun z_=>∃(k_3:sAbD_c k_2 (Nat.min 16 r)),z_=sAbD k_3):=by
  have⟨hH,hS,hb,hz,hq,hr,hpos,hR⟩:=id k_2
  exact rn_ev (yty.enf tabW1 1) sAbA_h mixed _ none [] [(4,((0:Int)≤16∧(0:Int)≤((r:Nat):Int)))] 1 (fun j M=>by kernel_rfl) (A1 ⟨by omega,by omega⟩ A0) ⟨⟨rfl⟩,rfl⟩
structure sAbF_c (_:sAbD_c k_2 n) (p2 i:Nat) (Z:List Int):Prop where
  hp2:p2=p
  hZ:Z=xrn S a p i
  hi:i≤n
variable {p2 i:Nat} {Z:List Int} {k_4:sAbF_c k_3 p2 i Z}
abbrev sAbF (_:sAbF_c k_3 p2 i Z):FS:=⟨false,39,[(2,.slice (some ⟨0,p,none⟩) r q),(3,.pointer (some ⟨1,0,none⟩)),(4,.pointer (some ⟨2,0,none⟩)),(6,.pointer (some ⟨3,0,none⟩)),(7,.int .i64 ((n:Nat):Int)),(18,.slice (some ⟨0,p2,none⟩) n q),(19,.int .i64 ((n:Nat):Int)),(20,.int .i64 ((i:Nat):Int))],[(a,t),((wA .u8 16 Z),(22,(0,0))),((wA .u8 16 H),(22,(0,0))),((wA .u8 16 []),(22,(0,0)))]⟩
theorem sAb3:sAbA_R [1,0,0,0,1,0,1,0,0] (sAbD k_3) .normal (fun z_=>∃(k_4:sAbF_c k_3 (if q=0 then p else p+0*1) 0 (xrn S a p 0)),z_=sAbF k_4):=by
  have⟨hH,hS,hb,hz,hq,hr,hpos,hR⟩:=id k_2
  have⟨hn⟩:=id k_3
  have hm:n=min 16 r:=hn
  exact rn_ev (yty.enf tabW1 1) sAbA_h mixed (⟨false,39,[(2,.slice (some ⟨0,p,none⟩) r q),(3,.pointer (some ⟨1,0,none⟩)),(4,.pointer (some ⟨2,0,none⟩)),(6,.pointer (some ⟨3,0,none⟩)),(7,.int .i64 ((n:Nat):Int)),(18,.slice (some ⟨0,(if q=0 then p else p+0*1),none⟩) n q),(19,.int .i64 ((n:Nat):Int)),(20,.int .i64 0)],[(a,t),((wA .u8 16 S),(22,(0,0))),((wA .u8 16 H),(22,(0,0))),((wA .u8 16 []),(22,(0,0)))]⟩) none [] [(4,((True∧(0≤((n:Nat):Int)))∧0≤n∧n≤q))] 2 (fun j M=>by kernel_rfl) (A1 (by refine⟨⟨?_,?_⟩,?_,?_⟩<;>first|trivial|omega) A0) ⟨⟨by rw[if_neg (by omega)];omega,rfl,by omega⟩,(by
    delta sAbF
    rw[xrn_0 S a p]
    try kernel_rfl)⟩
theorem sAb4 (hlt:i<n):sAbA_R [1,0,0,0,1,0,1,0,1,0,0] (sAbF k_4) .normal (fun z_=>∃(k_4:sAbF_c k_3 p2 (i+1) (lset 16 Z i (bits .xor .u8 (Z.getD i 0) (iat a (p+i))))),z_=sAbF k_4):=by
  have⟨hH,hS,hb,hz,hq,hr,hpos,hR⟩:=id k_2
  have⟨hn⟩:=id k_3
  have⟨hp2,hZ,hi⟩:=id k_4
  have hm:n=min 16 r:=hn
  exact rn_ev (yty.enf tabW1 1) sAbA_h mixed _ none [some (.bool true),some (.int .u8 (iat a (p+i))),some (.int .u8 (Z.getD i 0)),none,some (.agg (wA .u8 16 (lset 16 Z i (bits .xor .u8 (Z.getD i 0) (iat a (p+i)))))),some (.int .i64 ((i+1:Nat):Int))] [(1,(decide (((i:Nat):Int)<((n:Nat):Int)))=true),(2,((0:Int)≤((i:Nat):Int)∧(((i:Nat):Int):Int)<((n:Nat):Int))),(0,((a[(p2+Int.toNat ((i:Nat):Int)*1)]? =some (.int .u8 (iat a (p+i))))∧(iat a (p+i))=(iat a (p+i)))),(6,(0≤((i:Nat):Int)∧((i:Nat):Int)<((16:Nat):Int))),(0,(((wA .u8 16 Z)[(0+Int.toNat ((i:Nat):Int)*1)]? =some (.int .u8 (Z.getD i 0)))∧(Z.getD i 0)=(Z.getD i 0))),(4,(0≤((i:Nat):Int)∧((i:Nat):Int)<((16:Nat):Int))),(0,((0+Int.toNat ((i:Nat):Int)*1)<(wA .u8 16 Z).size∧(wA .u8 16 Z).setIfInBounds (0+Int.toNat ((i:Nat):Int)*1) (.int .u8 (bits .xor .u8 (Z.getD i 0) (iat a (p+i))))=(wA .u8 16 (lset 16 Z i (bits .xor .u8 (Z.getD i 0) (iat a (p+i))))))),(1,(IntKind.i64.wrap (((i:Nat):Int)+1))=((i+1:Nat):Int))] 1 (fun j M=>by kernel_rfl) (A1 (decide_eq_true (by omega)) (A1 (by(try simp only[Int.toNat_natCast,wA_size]);omega) (A1 ⟨(by rw[Int.toNat_natCast,Nat.mul_one,hp2];exact(hb i (by have hm:n=min 16 r:=hn;omega)).1),rfl⟩ (A1 (by(try simp only[Int.toNat_natCast,wA_size]);omega) (A1 ⟨(wA_get (by omega) (by omega)),rfl⟩ (A1 (by(try simp only[Int.toNat_natCast,wA_size]);omega) (A1 ⟨(by rw[wA_size];omega),wA_putE (by omega) (by omega)⟩ (A1 (wi64 (by omega)) A0)))))))) ⟨⟨hp2,xrn_step (by omega) hZ,by omega⟩,rfl⟩
structure sAbG_c (_:sAbD_c k_2 n) (p2 i:Nat) (Z:List Int):Prop where
  hZ:Z=xr S (bL a p r)
variable {k_5:sAbG_c k_3 p2 i Z}
abbrev sAbG (_:sAbG_c k_3 p2 i Z):FS:=⟨false,39,[(2,.slice (some ⟨0,p,none⟩) r q),(3,.pointer (some ⟨1,0,none⟩)),(4,.pointer (some ⟨2,0,none⟩)),(6,.pointer (some ⟨3,0,none⟩)),(7,.int .i64 ((n:Nat):Int))],[(a,t),((wA .u8 16 Z),(22,(0,0))),((wA .u8 16 H),(22,(0,0))),((wA .u8 16 []),(22,(0,0)))]⟩
theorem sAb5 (hge:¬ i<n):sAbA_R [1,0,0,0,1,0,1,0,1,0,0] (sAbF k_4) (.exit 2) (fun z_=>∃(k_5:sAbG_c k_3 p2 i Z),z_=sAbG k_5):=by
  have⟨hH,hS,hb,hz,hq,hr,hpos,hR⟩:=id k_2
  have⟨hn⟩:=id k_3
  have⟨hp2,hZ,hi⟩:=id k_4
  exact rn_ev (yty.enf tabW1 1) sAbA_h mixed _ none [some (.bool false)] [(1,(decide (((i:Nat):Int)<((n:Nat):Int)))=false)] 0 (fun j M=>by kernel_rfl) (A1 (decide_eq_false (by omega)) A0) ⟨⟨by rw[hZ,show i=n by omega];exact xrn_end hS hn⟩,rfl⟩
theorem sAb6:sAbA_R [1,0,0,0,1,0,1,0,1] (sAbF k_4) .normal (fun z_=>∃(i:Nat) (Z:List Int) (k_5:sAbG_c k_3 p2 i Z),z_=sAbG k_5):=by
  refine rn_loop (k:=2) (w:= [1,0,0,0,1,0,1,0,1]) (by kernel_rfl) (fun n_ z_=>∃(i:Nat) (Z:List Int) (k_4:sAbF_c k_3 p2 i Z),n_=n - i∧z_=sAbF k_4) _ ⟨_,_,k_4,rfl,rfl⟩ ?_
  rintro n_ _ ⟨i,Z,k_4,hn_,rfl⟩
  have⟨hH,hS,hb,hz,hq,hr,hpos,hR⟩:=k_2
  have⟨hn⟩:=k_3
  have⟨hp2,hZ,hi⟩:=k_4
  by_cases hlt:i<n
  · exact(sAb4 hlt).x fun _ ⟨k_4,e_⟩=> .inl ⟨rfl,n - (i+1),by omega,⟨_,_,k_4,rfl,e_⟩⟩
  · exact(sAb5 hlt).x fun _ ⟨k_5,e_⟩=> .inr ⟨rfl,⟨i,Z,k_5,e_⟩⟩
theorem sAb7:sAbA_R [1,0,0,0,1,0,1,0] (sAbD k_3) .normal (fun z_=>∃(i1:Nat) (Z1:List Int) (k_5:sAbG_c k_3 (if q=0 then p else p+0*1) i1 Z1),z_=sAbG k_5):=by
  refine rn_seq (w:= [1,0,0,0,1,0,1,0]) (by kernel_rfl) sAb3 ?_
  rintro _ ⟨k_4,rfl⟩
  exact sAb6
structure sAbH_c (_:sAbD_c k_2 n) (p2 i:Nat) (Z V:List Int):Prop where
  hV:V=dotL (xr S (bL a p r)) H
variable {V:List Int} {k_6:sAbH_c k_3 p2 i Z V}
abbrev sAbH (_:sAbH_c k_3 p2 i Z V):FS:=⟨false,39,[(2,.slice (some ⟨0,p,none⟩) r q),(3,.pointer (some ⟨1,0,none⟩)),(4,.pointer (some ⟨2,0,none⟩)),(6,.pointer (some ⟨3,0,none⟩)),(7,.int .i64 ((n:Nat):Int))],[(a,t),((wA .u8 16 V),(22,(0,0))),((wA .u8 16 H),(22,(0,0))),((wA .u8 16 []),(22,(0,0)))]⟩
theorem sAb8:sAbA_R [1,0,0,0,1,0,1,1,0] (sAbG k_5) .normal (fun z_=>∃(k_6:sAbH_c k_3 p2 i Z (dotL (dL8 (wA .u8 16 Z)) (dL8 (wA .u8 16 H)))),z_=sAbH k_6):=by
  have⟨hH,hS,hb,hz,hq,hr,hpos,hR⟩:=id k_2
  have⟨hZ⟩:=id k_5
  exact rn_ev (yty.enf tabW1 1) sAbA_h mixed _ none [] [(4,(((wA .u8 16 Z)=wA .u8 16 (dL8 (wA .u8 16 Z))∧By (dL8 (wA .u8 16 Z)))∧((wA .u8 16 H)=wA .u8 16 (dL8 (wA .u8 16 H))∧By (dL8 (wA .u8 16 H))))),(0,((wA .u8 16 (dotL (dL8 (wA .u8 16 Z)) (dL8 (wA .u8 16 H)))).all (fun v=>v.oneCell')=true))] 0 (fun j M=>by kernel_rfl) (A1 ⟨dq (by rw[hZ];exact xr_by _ _),dq hH⟩ (A1 (wA_one _ _ _) A0)) ⟨⟨by rw[dotL_w1,dotL_w2,hZ]⟩,rfl⟩
theorem sAb9:sAbA_R [1,0,0,0,1,0,1,1,1] (sAbH k_6) .normal (fun z_=>∃(k_1:sAbA_c a t H R (some ⟨0,(if q=n then p else p+n*1),none⟩) (r - n) (q - n) V),z_=sAbB k_1):=by
  have⟨hH,hS,hb,hz,hq,hr,hpos,hR⟩:=id k_2
  have⟨hn⟩:=id k_3
  have⟨hV⟩:=id k_6
  have hm:n=min 16 r:=hn
  exact rn_ev (yty.enf tabW1 1) sAbA_h mixed _ none [] [(4,(((0≤((n:Nat):Int))∧True)∧n≤r∧r≤q))] 1 (fun j M=>by kernel_rfl) (A1 (by refine⟨⟨?_,?_⟩,?_,?_⟩<;>first|trivial|omega) A0) ⟨⟨hH,by rw[hV];exact dotL_by _ _,⟨by omega,.inr ⟨_,rfl,by
      by_cases h:q=n
      · rw[if_pos h,show r - n=0 by omega];intro j hj;omega
      · rw[if_neg h,Nat.mul_one];exact hb.sub (by omega),by split<;>omega⟩⟩,by omega,by rw[hV];exact abs_step hpos hq hn rfl hR⟩,rfl⟩
theorem sAb0a:sAbA_R [1,0,0,0,1,0,1,1] (sAbG k_5) .normal (fun z_=>∃(k_1:sAbA_c a t H R (some ⟨0,(if q=n then p else p+n*1),none⟩) (r - n) (q - n) (dotL (dL8 (wA .u8 16 Z)) (dL8 (wA .u8 16 H)))),z_=sAbB k_1):=by
  refine rn_seq (w:= [1,0,0,0,1,0,1,1]) (by kernel_rfl) sAb8 ?_
  rintro _ ⟨k_6,rfl⟩
  exact sAb9
theorem sAb0b:sAbA_R [1,0,0,0,1,0,1] (sAbD k_3) .normal (fun z_=>∃(i10:Nat) (Z10:List Int) (k_1:sAbA_c a t H R (some ⟨0,(if q=n then p else p+n*1),none⟩) (r - n) (q - n) (dotL (dL8 (wA .u8 16 Z10)) (dL8 (wA .u8 16 H)))),z_=sAbB k_1):=by
  refine rn_seq (w:= [1,0,0,0,1,0,1]) (by kernel_rfl) sAb7 ?_
  rintro _ ⟨i10,Z10,k_5,rfl⟩
  exact(sAb0a).mono fun _ ⟨k_1,e_⟩=>⟨i10,Z10,k_1,e_⟩
theorem sAb0c:sAbA_R [1,0,0,0,1,0] (sAbC k_2) .normal (fun z_=>∃(i101:Nat) (Z101:List Int) (k_1:sAbA_c a t H R (some ⟨0,(if q=(Nat.min 16 r) then p else p+(Nat.min 16 r)*1),none⟩) (r - (Nat.min 16 r)) (q - (Nat.min 16 r)) (dotL (dL8 (wA .u8 16 Z101)) (dL8 (wA .u8 16 H)))),z_=sAbB k_1):=by
  refine rn_seq (w:= [1,0,0,0,1,0]) (by kernel_rfl) sAb2 ?_
  rintro _ ⟨k_3,rfl⟩
  exact sAb0b
theorem sAb0d:sAbA_R [1,0,0,0,1] (sAbC k_2) .normal (fun z_=>∃(i101:Nat) (Z101:List Int) (k_1:sAbA_c a t H R (some ⟨0,(if q=(Nat.min 16 r) then p else p+(Nat.min 16 r)*1),none⟩) (r - (Nat.min 16 r)) (q - (Nat.min 16 r)) (dotL (dL8 (wA .u8 16 Z101)) (dL8 (wA .u8 16 H)))),z_=sAbB k_1):=by
  exact rn_block (k:=1) (w:= [1,0,0,0,1]) (by kernel_rfl) sAb0c
theorem sAb0e:sAbA_R [1,0,0,0] (sAbC k_2) .normal (fun z_=>∃(i1011:Nat) (Z1011:List Int) (k_1:sAbA_c a t H R (some ⟨0,(if q=(Nat.min 16 r) then p else p+(Nat.min 16 r)*1),none⟩) (r - (Nat.min 16 r)) (q - (Nat.min 16 r)) (dotL (dL8 (wA .u8 16 Z1011)) (dL8 (wA .u8 16 H)))),z_=sAbB k_1):=by
  refine rn_seq (w:= [1,0,0,0]) (by kernel_rfl) sAb1 ?_
  rintro _ rfl
  exact sAb0d
structure sAbI_c (a:Array Value) (t:Tq) (H R:List Int) (bp:Option Addr) (r q:Nat) (S:List Int):Prop where
  hE:S=R
variable {k_7:sAbI_c a t H R bp r q S}
abbrev sAbI (_:sAbI_c a t H R bp r q S):FS:=⟨false,39,[(3,.pointer (some ⟨1,0,none⟩)),(6,.pointer (some ⟨3,0,none⟩))],[(a,t),((wA .u8 16 S),(22,(0,0))),((wA .u8 16 H),(22,(0,0))),((wA .u8 16 []),(22,(0,0)))]⟩
theorem sAbx (hge:¬ 0<r):sAbA_R [1,0,0,0,0] (sAbB k_1) (.exit 0) (fun z_=>∃(k_7:sAbI_c a t H R bp r q S),z_=sAbI k_7):=by
  have⟨hH,hS,hb,hr,hR⟩:=id k_1
  exact rn_ev (yty.enf tabW1 1) sAbA_h mixed _ none [some (.bool false)] [(5,(decide (0<((r:Nat):Int)))=false)] 0 (fun j M=>by kernel_rfl) (A1 (decide_eq_false (by omega)) A0) ⟨⟨by rw[show r=0 by omega] at hR;exact hR⟩,rfl⟩
abbrev sAbJ (_:sAbI_c a t H R bp r q S):FS:=⟨false,39,[(6,.pointer (some ⟨3,0,none⟩))],[(a,t),((wA .u8 16 S),(22,(0,0))),((wA .u8 16 H),(22,(0,0))),((wA .u8 16 S),(22,(0,0)))]⟩
theorem sAby:sAbA_R [1,1] (sAbI k_7) .ret (fun z_=>z_=sAbJ k_7):=by
  exact rn_ev (yty.enf tabW1 1) sAbA_h mixed _ none [] [(2,((wA .u8 16 S).all (fun v=>v.oneCell')=true))] 0 (fun j M=>by kernel_rfl) (A1 (wA_one _ _ _) A0) rfl
abbrev sAbC_s (a:Array Value) (t:Tq) (H R:List Int) (p r q:Nat) (S:List Int) (j:Nat→Value):List Value:=([j 0,j 1,.slice (some ⟨0,p,none⟩) r q,.pointer (some ⟨1,0,none⟩),.pointer (some ⟨2,0,none⟩),j 5,.pointer (some ⟨3,0,none⟩)] ++ (J j 7 32))
abbrev sAbC_m (a:Array Value) (t:Tq) (H R:List Int) (p r q:Nat) (S:List Int):List Mb:= [(a,t),((wA .u8 16 S),(22,(0,0))),((wA .u8 16 H),(22,(0,0))),((wA .u8 16 []),(22,(0,0)))]
abbrev sAbB_s (a:Array Value) (t:Tq) (H R:List Int) (bp:Option Addr) (r q:Nat) (S:List Int) (j:Nat→Value):List Value:=([j 0,j 1,.slice bp r q,.pointer (some ⟨1,0,none⟩),.pointer (some ⟨2,0,none⟩),j 5,.pointer (some ⟨3,0,none⟩)] ++ (J j 7 32))
abbrev sAbB_m (a:Array Value) (t:Tq) (H R:List Int) (bp:Option Addr) (r q:Nat) (S:List Int):List Mb:= [(a,t),((wA .u8 16 S),(22,(0,0))),((wA .u8 16 H),(22,(0,0))),((wA .u8 16 []),(22,(0,0)))]
theorem sAb0e_o (a:Array Value) (t:Tq) (H R:List Int) (p r q:Nat) (S:List Int) (j:Nat→Value) (hH:By H) (hS:By S) (hb:bytesAt a p r) (hz:p+r≤a.size) (hq:r≤q) (hr:r≤1000000000) (hpos:0<r) (hR:absN H ((r+15) / 16) S (bL a p r)=R)  {c0:Prop} {ch0:List (Option Value)}:Runs Try.prog (cAt [1,0,0,0] (bdy Try.f30)) ⟨sAbC_s a t H R p r q S j,sAbC_m a t H R p r q S,c0,ch0⟩ (fun e s=>e= .normal∧∃(i1011:Nat) (Z1011:List Int) (j:Nat→Value) (c:Prop) (ch:List (Option Value)),(By (dotL (dL8 (wA .u8 16 Z1011)) (dL8 (wA .u8 16 H))))∧(Bk a (some ⟨0,(if q=(Nat.min 16 r) then p else p+(Nat.min 16 r)*1),none⟩) (r - (Nat.min 16 r)) (q - (Nat.min 16 r)))∧((r - (Nat.min 16 r))≤1000000000)∧(absN H (((r - (Nat.min 16 r))+15) / 16) (dotL (dL8 (wA .u8 16 Z1011)) (dL8 (wA .u8 16 H))) (bO a (some ⟨0,(if q=(Nat.min 16 r) then p else p+(Nat.min 16 r)*1),none⟩) (r - (Nat.min 16 r)))=R)∧s=⟨sAbB_s a t H R (some ⟨0,(if q=(Nat.min 16 r) then p else p+(Nat.min 16 r)*1),none⟩) (r - (Nat.min 16 r)) (q - (Nat.min 16 r)) (dotL (dL8 (wA .u8 16 Z1011)) (dL8 (wA .u8 16 H))) j,sAbB_m a t H R (some ⟨0,(if q=(Nat.min 16 r) then p else p+(Nat.min 16 r)*1),none⟩) (r - (Nat.min 16 r)) (q - (Nat.min 16 r)) (dotL (dL8 (wA .u8 16 Z1011)) (dL8 (wA .u8 16 H))),c,ch⟩) 1:=by
  refine(Rn.old (sAb0e (k_2:=(⟨hH,hS,hb,hz,hq,hr,hpos,hR⟩:sAbC_c a t H R p r q S))) j (by kernel_rfl)).mono ?_
  rintro e s ⟨rfl,_,⟨i1011,Z1011,k_1,rfl⟩,j,c,ch,rfl⟩
  have⟨x_hH,x_hS,x_hb,x_hr,x_hR⟩:=k_1
  exact⟨rfl,i1011,Z1011,j,c,ch,x_hS,x_hb,x_hr,x_hR,by kernel_rfl⟩
abbrev sAbI_s (a:Array Value) (t:Tq) (H R:List Int) (bp:Option Addr) (r q:Nat) (S:List Int) (j:Nat→Value):List Value:=(J j 0 3 ++ ([.pointer (some ⟨1,0,none⟩),j 4,j 5,.pointer (some ⟨3,0,none⟩)] ++ (J j 7 32)))
abbrev sAbI_m (a:Array Value) (t:Tq) (H R:List Int) (bp:Option Addr) (r q:Nat) (S:List Int):List Mb:= [(a,t),((wA .u8 16 S),(22,(0,0))),((wA .u8 16 H),(22,(0,0))),((wA .u8 16 []),(22,(0,0)))]
theorem sAbx_o (a:Array Value) (t:Tq) (H R:List Int) (bp:Option Addr) (r q:Nat) (S:List Int) (j:Nat→Value) (hH:By H) (hS:By S) (hb:Bk a bp r q) (hr:r≤1000000000) (hR:absN H ((r+15) / 16) S (bO a bp r)=R) (hge:¬ 0<r) {c0:Prop} {ch0:List (Option Value)}:Runs Try.prog (cAt [1,0,0,0,0] (bdy Try.f30)) ⟨sAbB_s a t H R bp r q S j,sAbB_m a t H R bp r q S,c0,ch0⟩ (fun e s=>e=(.exit 0)∧∃(j:Nat→Value) (c:Prop) (ch:List (Option Value)),(S=R)∧s=⟨sAbI_s a t H R bp r q S j,sAbI_m a t H R bp r q S,c,ch⟩) 1:=by
  refine(Rn.old (sAbx (k_1:=(⟨hH,hS,hb,hr,hR⟩:sAbA_c a t H R bp r q S)) hge) j (by kernel_rfl)).mono ?_
  rintro e s ⟨rfl,_,⟨k_7,rfl⟩,j,c,ch,rfl⟩
  have⟨x_hE⟩:=k_7
  exact⟨rfl,j,c,ch,x_hE,by kernel_rfl⟩
abbrev sAbA_s (a:Array Value) (t:Tq) (H R:List Int) (bp:Option Addr) (r q:Nat) (S:List Int) (j:Nat→Value):List Value:=([.agg (wA .u8 16 S),.agg (wA .u8 16 H),.slice bp r q] ++ (JU 36))
abbrev sAbA_m (a:Array Value) (t:Tq) (H R:List Int) (bp:Option Addr) (r q:Nat) (S:List Int):List Mb:= [(a,t)]
theorem sAb0_o (a:Array Value) (t:Tq) (H R:List Int) (bp:Option Addr) (r q:Nat) (S:List Int) (j:Nat→Value) (hH:By H) (hS:By S) (hb:Bk a bp r q) (hr:r≤1000000000) (hR:absN H ((r+15) / 16) S (bO a bp r)=R)  {c0:Prop} {ch0:List (Option Value)}:Runs Try.prog (cAt [0] (bdy Try.f30)) ⟨sAbA_s a t H R bp r q S j,sAbA_m a t H R bp r q S,c0,ch0⟩ (fun e s=>e= .normal∧∃(j:Nat→Value) (c:Prop) (ch:List (Option Value)),s=⟨sAbB_s a t H R bp r q S j,sAbB_m a t H R bp r q S,c,ch⟩) 1:=by
  refine(Rn.old (sAb0 (k_1:=(⟨hH,hS,hb,hr,hR⟩:sAbA_c a t H R bp r q S))) j (by kernel_rfl)).mono ?_
  rintro e s ⟨rfl,_,rfl,j,c,ch,rfl⟩
  exact⟨rfl,j,c,ch,by kernel_rfl⟩
abbrev sAbJ_s (a:Array Value) (t:Tq) (H R:List Int) (bp:Option Addr) (r q:Nat) (S:List Int) (j:Nat→Value):List Value:=(J j 0 6 ++ ([.pointer (some ⟨3,0,none⟩)] ++ (J j 7 32)))
abbrev sAbJ_m (a:Array Value) (t:Tq) (H R:List Int) (bp:Option Addr) (r q:Nat) (S:List Int):List Mb:= [(a,t),((wA .u8 16 S),(22,(0,0))),((wA .u8 16 H),(22,(0,0))),((wA .u8 16 S),(22,(0,0)))]
theorem sAby_o (a:Array Value) (t:Tq) (H R:List Int) (bp:Option Addr) (r q:Nat) (S:List Int) (j:Nat→Value) (hE:S=R)  {c0:Prop} {ch0:List (Option Value)}:Runs Try.prog (cAt [1,1] (bdy Try.f30)) ⟨sAbI_s a t H R bp r q S j,sAbI_m a t H R bp r q S,c0,ch0⟩ (fun e s=>e= .ret∧∃(j:Nat→Value) (c:Prop) (ch:List (Option Value)),s=⟨sAbJ_s a t H R bp r q S j,sAbJ_m a t H R bp r q S,c,ch⟩) 1:=by
  refine(Rn.old (sAby (k_7:=(⟨hE⟩:sAbI_c a t H R bp r q S))) j (by kernel_rfl)).mono ?_
  rintro e s ⟨rfl,_,rfl,j,c,ch,rfl⟩
  exact⟨rfl,j,c,ch,by kernel_rfl⟩
theorem sAb_loop (a:Array Value) (t:Tq) (H R:List Int) (bp:Option Addr) (r q:Nat) (S:List Int) (j:Nat→Value) (hH:By H) (hS:By S) (hb:Bk a bp r q) (hr:r≤1000000000) (hR:absN H ((r+15) / 16) S (bO a bp r)=R) {c0:Prop} {ch0:List (Option Value)}:Runs Try.prog (cAt [1,0] (bdy Try.f30)) ⟨sAbB_s a t H R bp r q S j,sAbB_m a t H R bp r q S,c0,ch0⟩ (fun e s=>e= .normal∧∃(bp:Option Addr) (r q:Nat) (S:List Int) (j:Nat→Value) (c:Prop) (ch:List (Option Value)),S=R∧s=⟨sAbI_s a t H R bp r q S j,sAbI_m a t H R bp r q S,c,ch⟩) 1:=by
  rw[show(cAt [1,0] (bdy Try.f30))= .block 0 (.loop (cAt [1,0,0,0] (bdy Try.f30))) from by kernel_rfl]
  refine runs_block (K1:=fun e s=>e= .exit 0∧∃(bp:Option Addr) (r q:Nat) (S:List Int) (j:Nat→Value) (c:Prop) (ch:List (Option Value)),S=R∧s=⟨sAbI_s a t H R bp r q S j,sAbI_m a t H R bp r q S,c,ch⟩) ?_ (by rintro e s ⟨rfl,hh⟩;exact .inl ⟨rfl,rfl,hh⟩)
  refine runs_loop (fun M s=>∃(bp:Option Addr) (r q:Nat) (S:List Int) (j:Nat→Value) (c:Prop) (ch:List (Option Value)),By S∧Bk a bp r q∧r≤1000000000∧absN H ((r+15) / 16) S (bO a bp r)=R∧M=r∧s=⟨sAbB_s a t H R bp r q S j,sAbB_m a t H R bp r q S,c,ch⟩) r ⟨bp,r,q,S,j,c0,ch0,hS,hb,hr,hR,rfl,rfl⟩ ?_
  rintro M s ⟨bp,r,q,S,j,c,ch,hS,hb,hr,hR,rfl,rfl⟩
  by_cases hpos:0<M
  · obtain ⟨hq, ⟨_, h0, _⟩ | ⟨p, rfl, hb', hz⟩⟩ := hb
    · omega
    · refine Runs.mono (sAb0e_o a t H R p M q S j hH hS hb' hz hq hr hpos hR) ?_
      rintro e s ⟨rfl,i,Z,j,c,ch,f1,f2,f3,f4,rfl⟩
      exact .inl ⟨rfl,_,(by have:Nat.min 16 M=min 16 M:=rfl;omega),_,_,_,_,j,c,ch,f1,f2,f3,f4,rfl,rfl⟩
  · rw [show cAt [1, 0, 0, 0] (bdy Try.f30) = .seq (cAt [1, 0, 0, 0, 0] (bdy Try.f30)) (cAt [1, 0, 0, 0, 1] (bdy Try.f30)) from by kernel_rfl]
    refine runs_seq (sAbx_o a t H R bp M q S j hH hS hb hr hR hpos) (fun s hh=>absurd hh.1 (by simp)) (fun e s hne hh=> ?_)
    obtain⟨rfl,j,c,ch,hE,rfl⟩:=hh
    exact .inr ⟨by simp,rfl,bp,M,q,S,j,c,ch,hE,rfl⟩
theorem bO_len {a:Array Value} {bp:Option Addr} {r q:Nat} (h:Bk a bp r q):(bO a bp r).length=r:=by
  obtain⟨_,⟨rfl,rfl,_⟩|⟨p,rfl,_,_⟩⟩:=h
  · rfl
  · exact bL_len _ _ _
theorem sAb_c (a:Array Value) (t:Tq) (H S:List Int) (bp:Option Addr) (r q:Nat) (hH:By H) (hS:By S) (hb:Bk a bp r q) (hr:r≤1000000000):Reads Try.prog 30 [(a,t)] [.agg (wA .u8 16 S),.agg (wA .u8 16 H),.slice bp r q] (.agg (wA .u8 16 (absL H S (bO a bp r)))):=by
  have ha: [Value.agg (wA .u8 16 S),.agg (wA .u8 16 H),.slice bp r q].all (okp (1%big))=true:=by
    obtain⟨_,⟨rfl,rfl,_⟩|⟨p,rfl,_,_⟩⟩:=hb<;>kernel_rfl
  unfold absL
  rw[bO_len hb,absN_n]
  obtain⟨R,hR⟩:∃ R,absN H ((r+15) / 16) S (bO a bp r)=R:=⟨_,rfl⟩
  rw[hR]
  refine reads_runs (fk:=1) (yty.enf tabW1 1) Try.func30 (c:=bdy Try.f30) (by kernel_rfl) ⟨by rfl,by decide⟩ (args:= [.agg (wA .u8 16 S),.agg (wA .u8 16 H),.slice bp r q]) ha (K:=fun e s=>e= .ret∧resS (yty.enf tabW1 1) s Try.f30.results.toList=some [.agg (wA .u8 16 R)]) ?_ (fun e s h=>⟨h.1,_,h.2,rfl⟩)
  rw[show(bdy Try.f30)= .seq (cAt [0] (bdy Try.f30)) (.seq (cAt [1,0] (bdy Try.f30)) (cAt [1,1] (bdy Try.f30))) from by kernel_rfl]
  refine runs_seq (sAb0_o a t H R bp r q S (fun _=>undef) hH hS hb hr hR) (fun s hh=> ?_) (fun e s hne hh=>absurd hh.1 hne)
  obtain⟨_,j,c,ch,rfl⟩:=hh
  refine runs_seq (sAb_loop a t H R bp r q S j hH hS hb hr hR) (fun s hh=> ?_) (fun e s hne hh=>absurd hh.1 hne)
  obtain⟨_,bp',r',q',S',j,c,ch,hE,rfl⟩:=hh
  refine(sAby_o a t H R bp' r' q' S' j hE).mono ?_
  rintro e s ⟨rfl,j,c,ch,rfl⟩
  rw[← hE]
  exact⟨rfl,by kernel_rfl⟩
def bOf (mem:List Mb) (bp:Option Addr) (r:Nat):List Int:=match bp with
  |some A=>(match mem[A.block]? with|some x=>bL x.1 A.off r|none=> [])
  |none=> []
def BkOk (mem:List Mb) (bp:Option Addr) (r q:Nat):Prop:=r≤q∧((bp=none∧r=0∧q=0)∨∃(i o:Nat) (a:Array Value) (t:Tq),bp=some ⟨i,o,none⟩∧mem[i]? =some (a,t)∧bytesAt a o r∧o+r≤a.size)
theorem BkOk.len {mem:List Mb} {bp:Option Addr} {r q:Nat} (h:BkOk mem bp r q):(bOf mem bp r).length=r:=by
  obtain⟨_,⟨rfl,rfl,_⟩|⟨i,o,a,t,rfl,hm,_,_⟩⟩:=h
  · rfl
  · simp only[bOf,hm,bL_len]
theorem BkOk.app {mem:List Mb} {bp:Option Addr} {r q:Nat} (h:BkOk mem bp r q) (g:List Mb):BkOk (mem ++ g) bp r q∧bOf (mem ++ g) bp r=bOf mem bp r:=by
  obtain⟨hq,⟨rfl,rfl,h0⟩|⟨i,o,a,t,rfl,hm,hb,hz⟩⟩:=h
  · exact⟨⟨hq,.inl ⟨rfl,rfl,h0⟩⟩,rfl⟩
  · have hm' : (mem ++ g)[i]? = some (a, t) := by rw [List.getElem?_append_left (List.getElem?_eq_some_iff.1 hm).1]; exact hm
    exact⟨⟨hq,.inr ⟨i,o,a,t,rfl,hm',hb,hz⟩⟩,by simp only[bOf,hm,hm']⟩
theorem BkOk.two {m1 m2:Mb} {bp:Option Addr} {r q:Nat} (h:BkOk [m1,m2] bp r q) {g:List Mb}:BkOk (m1 :: m2 :: g) bp r q∧bOf (m1 :: m2 :: g) bp r=bOf [m1,m2] bp r:=h.app g
theorem bytes_w {n:Nat} {L:List Int} (h:By L):bytesAt (wA .u8 n L) 0 n:=fun j hj=>by
  have e:iat (wA .u8 n L) (0+j)=L.getD j 0:=by
    unfold iat
    rw[Nat.zero_add,wA_at hj]
  rw[e,Nat.zero_add]
  exact⟨wA_at hj,h j⟩
def pab : Entry Try.prog where
  f:=30
  g := fun mem xs => match mem, xs with
    |m :: g,[.agg s,.agg h,.slice bp r q]=>some (.agg (wA .u8 16 (absL (dL8 h) (dL8 s) (bOf (m :: g) bp r))),(((s=wA .u8 16 (dL8 s)∧By (dL8 s))∧(h=wA .u8 16 (dL8 h)∧By (dL8 h)))∧BkOk (m :: g) bp r q∧r≤1000000000))
    |_,_=>none
  ok := fun mem xs v c e hc w β hw _ => by
    split at e
    · rename_i m g s h bp r q
      simp only[Option.some.injEq,Prod.mk.injEq] at e
      obtain⟨rfl,rfl⟩:=e
      obtain⟨⟨⟨h1,h2⟩,h3,h4⟩,⟨hq,hb⟩,hr⟩:=hc
      rcases hb with⟨rfl,rfl,rfl⟩|⟨i,o,a,t,rfl,hm,hb,hz⟩
      · have := sAb_c m.1 m.2 (dL8 h) (dL8 s) none 0 0 h4 h2 ⟨hq, .inl ⟨rfl, rfl, rfl⟩⟩ hr w β (fun i x hx => by
          match i,hx with
          | 0, hx =>
            simp only[List.getElem?_cons_zero,Option.some.injEq] at hx
            subst hx
            exact hw 0 _ rfl
          |q+1,hx=>simp at hx) (fun i hi=>by omega)
        rw[← h1,← h3] at this
        exact this
      · have := sAb_c a t (dL8 h) (dL8 s) (some ⟨0, o, none⟩) r q h4 h2 ⟨hq, .inr ⟨o, rfl, hb, hz⟩⟩ hr w (fun _ => β i) (fun k x hx => by
          match k,hx with
          | 0, hx =>
            simp only[List.getElem?_cons_zero,Option.some.injEq] at hx
            subst hx
            exact hw i _ hm
          |q+1,hx=>simp at hx) (fun i hi=>by omega)
        rw[← h1,← h3] at this
        simp only[bOf,hm]
        exact this
    · cases e
  call:=call_of Try.func30 (by kernel_rfl) (by kernel_rfl)
def sLe_h (i:Nat):Hn:=⟨0,[],[],[],[]⟩
def sLe_a (l1 l2:Nat):List Value:=([.int .i64 ((l1:Nat):Int),.int .i64 ((l2:Nat):Int)] ++ (JU 10))
def sLe_b (l1 l2:Nat):List Value:=([.int .i64 ((l1:Nat):Int),.int .i64 ((l2:Nat):Int),undef,undef,.pointer (some ⟨0,0,none⟩),.int .i64 ((l1:Nat):Int),.int .u64 ((l1:Nat):Int),.int .u64 ((8*l1:Nat):Int),.int .i64 ((l2:Nat):Int),.int .u64 ((l2:Nat):Int),.int .u64 ((8*l2:Nat):Int),.agg (wA .u8 16 (jnL ((8*l1:Nat):Int) ((8*l2:Nat):Int)))])
theorem sLe_0 (l1 l2:Nat):evC (yty.en tabW1) sLe_h (cAt [] (bdy Try.f44)) ⟨sLe_a l1 l2,[],True,[some (.int .u64 ((l1:Nat):Int)),some (.int .u64 ((8*l1:Nat):Int)),some (.int .u64 ((l2:Nat):Int)),some (.int .u64 ((8*l2:Nat):Int))]⟩=some (.ret,⟨sLe_b l1 l2,[((wA .u8 16 (jnL ((8*l1:Nat):Int) ((8*l2:Nat):Int))),(22,(0,0)))],((((((((True∧True)∧(True∧(IntKind.u64.wrap ((l1:Nat):Int))=((l1:Nat):Int)))∧(True∧(IntKind.u64.wrap (8*((l1:Nat):Int)))=((8*l1:Nat):Int)))∧True)∧(True∧(IntKind.u64.wrap ((l2:Nat):Int))=((l2:Nat):Int)))∧(True∧(IntKind.u64.wrap (8*((l2:Nat):Int)))=((8*l2:Nat):Int)))∧((IntKind.u64=IntKind.u64∧IntKind.u64=IntKind.u64)∧True))∧((wA .u8 16 (jnL ((8*l1:Nat):Int) ((8*l2:Nat):Int))).all (fun v=>v.oneCell')=true)),[]⟩):=by kernel_rfl
theorem sLe_c (l1 l2:Nat) (h1:l1≤1000000000) (h2:l2≤1000000000):Pure Try.prog 44 #[.int .i64 ((l1:Nat):Int),.int .i64 ((l2:Nat):Int)] (.agg (wA .u8 16 (jnL ((8*l1:Nat):Int) ((8*l2:Nat):Int)))):=by
  refine pure_runs (E:=(yty.en tabW1)) Try.func44 (c:=bdy Try.f44) (by kernel_rfl) (args:= [.int .i64 ((l1:Nat):Int),.int .i64 ((l2:Nat):Int)]) (by kernel_rfl) (K:=fun e s=>e= .ret∧resS (yty.en tabW1) s Try.f44.results.toList=some [.agg (wA .u8 16 (jnL ((8*l1:Nat):Int) ((8*l2:Nat):Int)))]) ?_ (fun e s h=>⟨h.1,_,h.2,rfl⟩)
  refine(runs_ev mixed _ (sLe_0 l1 l2) ⟨⟨⟨⟨⟨⟨⟨⟨trivial,trivial⟩,⟨trivial,(by rw[IntKind.wrap_u64];omega)⟩⟩,⟨trivial,(by rw[IntKind.wrap_u64];omega)⟩⟩,trivial⟩,⟨trivial,(by rw[IntKind.wrap_u64];omega)⟩⟩,⟨trivial,(by rw[IntKind.wrap_u64];omega)⟩⟩,⟨⟨rfl,rfl⟩,trivial⟩⟩,wA_one _ _ _⟩).mono ?_
  rintro e s ⟨rfl,rfl⟩
  exact⟨rfl,by kernel_rfl⟩
def ple:Entry Try.prog:=ent2C Try.func44 (by kernel_rfl) (by kernel_rfl) (fun x y=> .agg (wA .u8 16 (jnL ((8*x.toNat:Nat):Int) ((8*y.toNat:Nat):Int)))) (fun x y=>(0≤x∧x≤1000000000)∧0≤y∧y≤1000000000) (k:= .i64) (k':= .i64) (fun x y h=>by
  have:=sLe_c x.toNat y.toNat (by omega) (by omega)
  rwa[show((x.toNat:Nat):Int)=x by omega,show((y.toNat:Nat):Int)=y by omega] at this)
def tabW2:List (Entry Try.prog):=ple :: pab :: tabW1
end Go.Proofs.Ythldpfindbhkeaa

set_option linter.unusedSimpArgs false
set_option linter.unusedVariables false
/-! siv: the tag. -/
namespace Go.Proofs.Ythldpfindbhkeaa
open Go.RowKit Go.Ev
def xrv (V N:List Int) (i:Nat):List Int:=(List.range 16).map fun k=>if k<i then bits .xor .u8 (V.getD k 0) (N.getD k 0) else V.getD k 0
theorem xrv_0 (V N:List Int):wA .u8 16 V=wA .u8 16 (xrv V N 0):=by
  refine wA_ext (wA_size _ _ _) (fun i hi=> ?_)
  unfold xrv
  rw[wA_at hi,ofFn_at hi,if_neg (by omega)]
theorem xrv_by {V N:List Int} {i:Nat} (h:By V):By (xrv V N i):=by_ofFn fun k _=>by
  split
  · exact xb _ _ _
  · exact h _
theorem xrv_step {V N Z:List Int} {i:Nat} (hi:i<16) (hZ:Z=xrv V N i):lset 16 Z i (bits .xor .u8 (Z.getD i 0) (N.getD i 0))=xrv V N (i+1):=by
  subst hZ
  unfold lset
  refine List.map_congr_left fun k hk=> ?_
  have hk:k<16:=by simpa using hk
  by_cases e:k=i
  · subst e
    unfold xrv
    rw[if_pos rfl,if_pos (by omega),ofFn_at hk,if_neg (by omega)]
  · rw [if_neg e]
    unfold xrv
    rw[ofFn_at hk]
    by_cases h:k<i
    · rw[if_pos h,if_pos (by omega)]
    · rw[if_neg h,if_neg (by omega)]
theorem iv12 {N:List Int} {i:Nat} (h:i<12):intOf ((wA .u8 12 N).getD (Int.toNat ((i:Nat):Int)) undef)=N.getD i 0:=by
  rw[Int.toNat_natCast,Array.getD_eq_getD_getElem?,wA_at h];rfl
theorem ix12 {N:List Int} {i:Nat} (h:i<12):(0≤((i:Nat):Int)∧((i:Nat):Int)<((12:Nat):Int))∧(wA .u8 12 N)[Int.toNat ((i:Nat):Int)]? =some (.int .u8 (intOf ((wA .u8 12 N).getD (Int.toNat ((i:Nat):Int)) undef))):=by
  refine⟨⟨by omega,by omega⟩,?_⟩
  rw[iv12 h,Int.toNat_natCast,wA_at h]
def cutL (Z:List Int):List Int:=lset 16 Z 15 (bits .andNot .u8 (Z.getD 15 0) 128)
theorem lset_by {n p:Nat} {L:List Int} {x:Int} (h:By L) (hx:0≤x∧x<256):By (lset n L p x):=by_ofFn fun k _=>by
  split
  · exact hx
  · exact h _
def tsL (HB A X:List Int):List Int:=absL HB (absL HB (absL HB [] A) X) (jnL ((8*A.length:Nat):Int) ((8*X.length:Nat):Int))
def tagL (HB TK N A X:List Int):List Int:=encL TK (cutL (xrv (tsL HB A X) N 12))
def sTgA_h (i:Nat):Hn:=if i=4 then⟨4,[],[],[],[]⟩ else⟨0,[],[],[],[]⟩
abbrev sTgA_R (w:List Nat) (S:FS) (e:Exit) (K:FS→Prop):Prop:=Rn Try.prog (cAt w (bdy Try.f35)) S e K 2
structure sTgA_c (HB TK N A X:List Int) (a1 a2:Array Value) (t1 t2:Tq) (b1 b2:Option Addr) (l1 c1 l2 c2:Nat):Prop where
  hH:By HB
  hK:By TK
  hN:By N
  hb1:BkOk [(a1,t1),(a2,t2)] b1 l1 c1
  hA:bOf [(a1,t1),(a2,t2)] b1 l1=A
  hb2:BkOk [(a1,t1),(a2,t2)] b2 l2 c2
  hX:bOf [(a1,t1),(a2,t2)] b2 l2=X
  hl:l1≤1000000000∧l2≤1000000000
variable {HB TK N A X:List Int} {a1 a2:Array Value} {t1 t2:Tq} {b1 b2:Option Addr} {l1 c1 l2 c2:Nat} {k_1:sTgA_c HB TK N A X a1 a2 t1 t2 b1 b2 l1 c1 l2 c2}
abbrev sTgA (_:sTgA_c HB TK N A X a1 a2 t1 t2 b1 b2 l1 c1 l2 c2):FS:=⟨true,51,[(0,.agg (wA .u8 16 HB)),(1,.agg (wA .u8 32 TK)),(2,.agg (wA .u8 12 N)),(3,.slice b1 l1 c1),(4,.slice b2 l2 c2)],[(a1,t1),(a2,t2)]⟩
abbrev sTgB (_:sTgA_c HB TK N A X a1 a2 t1 t2 b1 b2 l1 c1 l2 c2):FS:=⟨false,51,[(3,.slice b1 l1 c1),(4,.slice b2 l2 c2),(5,.pointer (some ⟨2,0,none⟩)),(6,.pointer (some ⟨3,0,none⟩)),(7,.pointer (some ⟨4,0,none⟩)),(10,.pointer (some ⟨5,0,none⟩))],[(a1,t1),(a2,t2),((wA .u8 16 HB),(22,(0,0))),((wA .u8 32 TK),(27,(0,0))),((wA .u8 12 N),(28,(0,0))),((wA .u8 16 []),(22,(0,0)))]⟩
theorem sTg0:sTgA_R [0] (sTgA k_1) .normal (fun z_=>z_=sTgB k_1):=by
  exact rn_ev (yty.enf tabW2 2) sTgA_h mixed _ none [] [] 0 (fun j M=>by kernel_rfl) A0 rfl
structure sTgC_c (_:sTgA_c HB TK N A X a1 a2 t1 t2 b1 b2 l1 c1 l2 c2) (V:List Int):Prop where
  hV:V=absL HB [] A
variable {V:List Int} {k_2:sTgC_c k_1 V}
abbrev sTgC (_:sTgC_c k_1 V):FS:=⟨false,51,[(3,.slice b1 l1 c1),(4,.slice b2 l2 c2),(5,.pointer (some ⟨2,0,none⟩)),(6,.pointer (some ⟨3,0,none⟩)),(7,.pointer (some ⟨4,0,none⟩)),(10,.pointer (some ⟨5,0,none⟩)),(11,.pointer (some ⟨6,0,none⟩))],[(a1,t1),(a2,t2),((wA .u8 16 HB),(22,(0,0))),((wA .u8 32 TK),(27,(0,0))),((wA .u8 12 N),(28,(0,0))),((wA .u8 16 []),(22,(0,0))),((wA .u8 16 V),(22,(0,0)))]⟩
theorem sTg1:sTgA_R [1,0] (sTgB k_1) .normal (fun z_=>∃(k_2:sTgC_c k_1 (absL (dL8 (wA .u8 16 HB)) (dL8 (wA .u8 16 [])) (bOf [(a1,t1),(a2,t2),((wA .u8 16 HB),(22,(0,0))),((wA .u8 32 TK),(27,(0,0))),((wA .u8 12 N),(28,(0,0))),((wA .u8 16 []),(22,(0,0)))] b1 l1))),z_=sTgC k_2):=by
  have⟨hH,hK,hN,hb1,hA,hb2,hX,hl⟩:=id k_1
  exact rn_ev (yty.enf tabW2 2) sTgA_h mixed _ none [] [(6,((((wA .u8 16 [])=wA .u8 16 (dL8 (wA .u8 16 []))∧By (dL8 (wA .u8 16 [])))∧((wA .u8 16 HB)=wA .u8 16 (dL8 (wA .u8 16 HB))∧By (dL8 (wA .u8 16 HB))))∧BkOk [(a1,t1),(a2,t2),((wA .u8 16 HB),(22,(0,0))),((wA .u8 32 TK),(27,(0,0))),((wA .u8 12 N),(28,(0,0))),((wA .u8 16 []),(22,(0,0)))] b1 l1 c1∧l1≤1000000000)),(0,((wA .u8 16 (absL (dL8 (wA .u8 16 HB)) (dL8 (wA .u8 16 [])) (bOf [(a1,t1),(a2,t2),((wA .u8 16 HB),(22,(0,0))),((wA .u8 32 TK),(27,(0,0))),((wA .u8 12 N),(28,(0,0))),((wA .u8 16 []),(22,(0,0)))] b1 l1))).all (fun v=>v.oneCell')=true))] 0 (fun j M=>by kernel_rfl) (A1 ⟨⟨dq by_nil,dq hH⟩,hb1.two.1,hl.1⟩ (A1 (wA_one _ _ _) A0)) ⟨⟨by rw[absL_w,hb1.two.2,hA]⟩,rfl⟩
structure sTgD_c (_:sTgC_c k_1 V) (W:List Int):Prop where
  hW:W=absL HB V X
variable {W:List Int} {k_3:sTgD_c k_2 W}
abbrev sTgD (_:sTgD_c k_2 W):FS:=⟨false,51,[(3,.slice b1 l1 c1),(4,.slice b2 l2 c2),(5,.pointer (some ⟨2,0,none⟩)),(6,.pointer (some ⟨3,0,none⟩)),(7,.pointer (some ⟨4,0,none⟩)),(10,.pointer (some ⟨5,0,none⟩)),(11,.pointer (some ⟨6,0,none⟩))],[(a1,t1),(a2,t2),((wA .u8 16 HB),(22,(0,0))),((wA .u8 32 TK),(27,(0,0))),((wA .u8 12 N),(28,(0,0))),((wA .u8 16 []),(22,(0,0))),((wA .u8 16 W),(22,(0,0)))]⟩
theorem sTg2:sTgA_R [1,1,0] (sTgC k_2) .normal (fun z_=>∃(k_3:sTgD_c k_2 (absL (dL8 (wA .u8 16 HB)) (dL8 (wA .u8 16 V)) (bOf [(a1,t1),(a2,t2),((wA .u8 16 HB),(22,(0,0))),((wA .u8 32 TK),(27,(0,0))),((wA .u8 12 N),(28,(0,0))),((wA .u8 16 []),(22,(0,0))),((wA .u8 16 V),(22,(0,0)))] b2 l2))),z_=sTgD k_3):=by
  have⟨hH,hK,hN,hb1,hA,hb2,hX,hl⟩:=id k_1
  have⟨hV⟩:=id k_2
  exact rn_ev (yty.enf tabW2 2) sTgA_h mixed _ none [] [(6,((((wA .u8 16 V)=wA .u8 16 (dL8 (wA .u8 16 V))∧By (dL8 (wA .u8 16 V)))∧((wA .u8 16 HB)=wA .u8 16 (dL8 (wA .u8 16 HB))∧By (dL8 (wA .u8 16 HB))))∧BkOk [(a1,t1),(a2,t2),((wA .u8 16 HB),(22,(0,0))),((wA .u8 32 TK),(27,(0,0))),((wA .u8 12 N),(28,(0,0))),((wA .u8 16 []),(22,(0,0))),((wA .u8 16 V),(22,(0,0)))] b2 l2 c2∧l2≤1000000000)),(0,((wA .u8 16 (absL (dL8 (wA .u8 16 HB)) (dL8 (wA .u8 16 V)) (bOf [(a1,t1),(a2,t2),((wA .u8 16 HB),(22,(0,0))),((wA .u8 32 TK),(27,(0,0))),((wA .u8 12 N),(28,(0,0))),((wA .u8 16 []),(22,(0,0))),((wA .u8 16 V),(22,(0,0)))] b2 l2))).all (fun v=>v.oneCell')=true))] 0 (fun j M=>by kernel_rfl) (A1 ⟨⟨dq (by rw[hV];exact absL_by by_nil),dq hH⟩,hb2.two.1,hl.2⟩ (A1 (wA_one _ _ _) A0)) ⟨⟨by rw[absL_w,hb2.two.2,hX]⟩,rfl⟩
abbrev sTgE (_:sTgD_c k_2 W):FS:=⟨false,51,[(3,.slice b1 l1 c1),(4,.slice b2 l2 c2),(5,.pointer (some ⟨2,0,none⟩)),(6,.pointer (some ⟨3,0,none⟩)),(7,.pointer (some ⟨4,0,none⟩)),(10,.pointer (some ⟨5,0,none⟩)),(11,.pointer (some ⟨6,0,none⟩)),(12,.pointer (some ⟨7,0,none⟩))],[(a1,t1),(a2,t2),((wA .u8 16 HB),(22,(0,0))),((wA .u8 32 TK),(27,(0,0))),((wA .u8 12 N),(28,(0,0))),((wA .u8 16 []),(22,(0,0))),((wA .u8 16 W),(22,(0,0))),((wA .u8 16 (jnL ((8*l1:Nat):Int) ((8*l2:Nat):Int))),(22,(0,0)))]⟩
theorem sTg3:sTgA_R [1,1,1,0] (sTgD k_3) .normal (fun z_=>z_=sTgE k_3):=by
  have⟨hH,hK,hN,hb1,hA,hb2,hX,hl⟩:=id k_1
  have⟨hV⟩:=id k_2
  have⟨hW⟩:=id k_3
  exact rn_ev (yty.enf tabW2 2) sTgA_h mixed _ none [] [(8,((IntKind.i64=IntKind.i64∧IntKind.i64=IntKind.i64)∧((0:Int)≤((l1:Nat):Int)∧(((l1:Nat):Int):Int)≤1000000000)∧(0:Int)≤((l2:Nat):Int)∧(((l2:Nat):Int):Int)≤1000000000)),(0,((wA .u8 16 (jnL ((8*l1:Nat):Int) ((8*l2:Nat):Int))).all (fun v=>v.oneCell')=true))] 0 (fun j M=>by kernel_rfl) (A1 ⟨⟨rfl,rfl⟩,⟨by omega,by omega⟩,by omega,by omega⟩ (A1 (wA_one _ _ _) A0)) rfl
structure sTgF_c (_:sTgD_c k_2 W) (Y:List Int):Prop where
  hY:Y=absL HB W (jnL ((8*l1:Nat):Int) ((8*l2:Nat):Int))
variable {Y:List Int} {k_4:sTgF_c k_3 Y}
abbrev sTgF (_:sTgF_c k_3 Y):FS:=⟨false,51,[(3,.slice b1 l1 c1),(4,.slice b2 l2 c2),(5,.pointer (some ⟨2,0,none⟩)),(6,.pointer (some ⟨3,0,none⟩)),(7,.pointer (some ⟨4,0,none⟩)),(10,.pointer (some ⟨5,0,none⟩)),(11,.pointer (some ⟨6,0,none⟩)),(12,.pointer (some ⟨7,0,none⟩))],[(a1,t1),(a2,t2),((wA .u8 16 HB),(22,(0,0))),((wA .u8 32 TK),(27,(0,0))),((wA .u8 12 N),(28,(0,0))),((wA .u8 16 []),(22,(0,0))),((wA .u8 16 Y),(22,(0,0))),((wA .u8 16 (jnL ((8*l1:Nat):Int) ((8*l2:Nat):Int))),(22,(0,0)))]⟩
theorem sTg4:sTgA_R [1,1,1,1,0] (sTgE k_3) .normal (fun z_=>∃(k_4:sTgF_c k_3 (absL (dL8 (wA .u8 16 HB)) (dL8 (wA .u8 16 W)) (bOf [(a1,t1),(a2,t2),((wA .u8 16 HB),(22,(0,0))),((wA .u8 32 TK),(27,(0,0))),((wA .u8 12 N),(28,(0,0))),((wA .u8 16 []),(22,(0,0))),((wA .u8 16 W),(22,(0,0))),((wA .u8 16 (jnL ((8*l1:Nat):Int) ((8*l2:Nat):Int))),(22,(0,0)))] (some ⟨7,0,none⟩) 16))),z_=sTgF k_4):=by
  have⟨hH,hK,hN,hb1,hA,hb2,hX,hl⟩:=id k_1
  have⟨hV⟩:=id k_2
  have⟨hW⟩:=id k_3
  exact rn_ev (yty.enf tabW2 2) sTgA_h mixed _ none [] [(6,((((wA .u8 16 W)=wA .u8 16 (dL8 (wA .u8 16 W))∧By (dL8 (wA .u8 16 W)))∧((wA .u8 16 HB)=wA .u8 16 (dL8 (wA .u8 16 HB))∧By (dL8 (wA .u8 16 HB))))∧BkOk [(a1,t1),(a2,t2),((wA .u8 16 HB),(22,(0,0))),((wA .u8 32 TK),(27,(0,0))),((wA .u8 12 N),(28,(0,0))),((wA .u8 16 []),(22,(0,0))),((wA .u8 16 W),(22,(0,0))),((wA .u8 16 (jnL ((8*l1:Nat):Int) ((8*l2:Nat):Int))),(22,(0,0)))] (some ⟨7,0,none⟩) 16 16∧16≤1000000000)),(0,((wA .u8 16 (absL (dL8 (wA .u8 16 HB)) (dL8 (wA .u8 16 W)) (bOf [(a1,t1),(a2,t2),((wA .u8 16 HB),(22,(0,0))),((wA .u8 32 TK),(27,(0,0))),((wA .u8 12 N),(28,(0,0))),((wA .u8 16 []),(22,(0,0))),((wA .u8 16 W),(22,(0,0))),((wA .u8 16 (jnL ((8*l1:Nat):Int) ((8*l2:Nat):Int))),(22,(0,0)))] (some ⟨7,0,none⟩) 16))).all (fun v=>v.oneCell')=true))] 0 (fun j M=>by kernel_rfl) (A1 ⟨⟨dq (by rw[hW];exact absL_by (by rw[hV];exact absL_by by_nil)),dq hH⟩,⟨by decide,.inr ⟨7,0,_,_,rfl,rfl,bytes_w (jnL_by _ _),by rw[wA_size];decide⟩⟩,by decide⟩ (A1 (wA_one _ _ _) A0)) ⟨⟨by rw[absL_w];congr 1⟩,rfl⟩
structure sTgG_c (_:sTgF_c k_3 Y) (i:Nat) (Z:List Int):Prop where
  hZ:Z=xrv Y N i
  hi:i≤12
variable {i:Nat} {Z:List Int} {k_5:sTgG_c k_4 i Z}
abbrev sTgG (_:sTgG_c k_4 i Z):FS:=⟨false,51,[(6,.pointer (some ⟨3,0,none⟩)),(10,.pointer (some ⟨5,0,none⟩)),(11,.pointer (some ⟨6,0,none⟩)),(32,.agg (wA .u8 12 N)),(33,.int .i64 ((i:Nat):Int))],[(a1,t1),(a2,t2),((wA .u8 16 HB),(22,(0,0))),((wA .u8 32 TK),(27,(0,0))),((wA .u8 12 N),(28,(0,0))),((wA .u8 16 []),(22,(0,0))),((wA .u8 16 Z),(22,(0,0))),((wA .u8 16 (jnL ((8*l1:Nat):Int) ((8*l2:Nat):Int))),(22,(0,0)))]⟩
theorem sTg5:sTgA_R [1,1,1,1,1,0,0] (sTgF k_4) .normal (fun z_=>∃(k_5:sTgG_c k_4 0 (xrv Y N 0)),z_=sTgG k_5):=by
  have⟨hH,hK,hN,hb1,hA,hb2,hX,hl⟩:=id k_1
  have⟨hV⟩:=id k_2
  have⟨hW⟩:=id k_3
  have⟨hY⟩:=id k_4
  exact rn_ev (yty.enf tabW2 2) sTgA_h mixed (⟨false,51,[(6,.pointer (some ⟨3,0,none⟩)),(10,.pointer (some ⟨5,0,none⟩)),(11,.pointer (some ⟨6,0,none⟩)),(32,.agg (wA .u8 12 N)),(33,.int .i64 0)],[(a1,t1),(a2,t2),((wA .u8 16 HB),(22,(0,0))),((wA .u8 32 TK),(27,(0,0))),((wA .u8 12 N),(28,(0,0))),((wA .u8 16 []),(22,(0,0))),((wA .u8 16 Y),(22,(0,0))),((wA .u8 16 (jnL ((8*l1:Nat):Int) ((8*l2:Nat):Int))),(22,(0,0)))]⟩) none [] [] 2 (fun j M=>by kernel_rfl) A0 ⟨⟨rfl,by omega⟩,(by
    delta sTgG
    rw[xrv_0 Y N]
    try kernel_rfl)⟩
theorem sTg6 (hlt:i<12):sTgA_R [1,1,1,1,1,0,1,0,0] (sTgG k_5) .normal (fun z_=>∃(k_5:sTgG_c k_4 (i+1) (lset 16 Z i (bits .xor .u8 (Z.getD i 0) (intOf ((wA .u8 12 N).getD (Int.toNat ((i:Nat):Int)) undef))))),z_=sTgG k_5):=by
  have⟨hH,hK,hN,hb1,hA,hb2,hX,hl⟩:=id k_1
  have⟨hV⟩:=id k_2
  have⟨hW⟩:=id k_3
  have⟨hY⟩:=id k_4
  have⟨hZ,hi⟩:=id k_5
  exact rn_ev (yty.enf tabW2 2) sTgA_h mixed _ none [some (.bool true),some (.int .u8 (Z.getD i 0)),none,some (.agg (wA .u8 16 (lset 16 Z i (bits .xor .u8 (Z.getD i 0) (intOf ((wA .u8 12 N).getD (Int.toNat ((i:Nat):Int)) undef)))))),some (.int .i64 ((i+1:Nat):Int))] [(1,(decide (((i:Nat):Int)<12))=true),(2,((0≤((i:Nat):Int)∧((i:Nat):Int)<((12:Nat):Int))∧(wA .u8 12 N)[Int.toNat ((i:Nat):Int)]? =some (.int .u8 (intOf ((wA .u8 12 N).getD (Int.toNat ((i:Nat):Int)) undef))))),(6,(0≤((i:Nat):Int)∧((i:Nat):Int)<((16:Nat):Int))),(0,(((wA .u8 16 Z)[(0+Int.toNat ((i:Nat):Int)*1)]? =some (.int .u8 (Z.getD i 0)))∧(Z.getD i 0)=(Z.getD i 0))),(4,(0≤((i:Nat):Int)∧((i:Nat):Int)<((16:Nat):Int))),(0,((0+Int.toNat ((i:Nat):Int)*1)<(wA .u8 16 Z).size∧(wA .u8 16 Z).setIfInBounds (0+Int.toNat ((i:Nat):Int)*1) (.int .u8 (bits .xor .u8 (Z.getD i 0) (intOf ((wA .u8 12 N).getD (Int.toNat ((i:Nat):Int)) undef))))=(wA .u8 16 (lset 16 Z i (bits .xor .u8 (Z.getD i 0) (intOf ((wA .u8 12 N).getD (Int.toNat ((i:Nat):Int)) undef))))))),(1,(IntKind.i64.wrap (((i:Nat):Int)+1))=((i+1:Nat):Int))] 1 (fun j M=>by kernel_rfl) (A1 (decide_eq_true (by omega)) (A1 (ix12 hlt) (A1 (by(try simp only[Int.toNat_natCast,wA_size]);omega) (A1 ⟨(wA_get (by omega) (by omega)),rfl⟩ (A1 (by(try simp only[Int.toNat_natCast,wA_size]);omega) (A1 ⟨(by rw[wA_size];omega),wA_putE (by omega) (by omega)⟩ (A1 (wi64 (by omega)) A0))))))) ⟨⟨by rw[iv12 hlt];exact xrv_step (by omega) hZ,by omega⟩,rfl⟩
structure sTgH_c (_:sTgF_c k_3 Y) (i:Nat) (Z:List Int):Prop where
  hZ:Z=xrv Y N 12
variable {k_6:sTgH_c k_4 i Z}
abbrev sTgH (_:sTgH_c k_4 i Z):FS:=⟨false,51,[(6,.pointer (some ⟨3,0,none⟩)),(10,.pointer (some ⟨5,0,none⟩)),(11,.pointer (some ⟨6,0,none⟩)),(32,.agg (wA .u8 12 N)),(33,.int .i64 ((i:Nat):Int))],[(a1,t1),(a2,t2),((wA .u8 16 HB),(22,(0,0))),((wA .u8 32 TK),(27,(0,0))),((wA .u8 12 N),(28,(0,0))),((wA .u8 16 []),(22,(0,0))),((wA .u8 16 Z),(22,(0,0))),((wA .u8 16 (jnL ((8*l1:Nat):Int) ((8*l2:Nat):Int))),(22,(0,0)))]⟩
theorem sTg7 (hge:¬ i<12):sTgA_R [1,1,1,1,1,0,1,0,0] (sTgG k_5) (.exit 0) (fun z_=>∃(k_6:sTgH_c k_4 i Z),z_=sTgH k_6):=by
  have⟨hH,hK,hN,hb1,hA,hb2,hX,hl⟩:=id k_1
  have⟨hV⟩:=id k_2
  have⟨hW⟩:=id k_3
  have⟨hY⟩:=id k_4
  have⟨hZ,hi⟩:=id k_5
  exact rn_ev (yty.enf tabW2 2) sTgA_h mixed _ none [some (.bool false)] [(1,(decide (((i:Nat):Int)<12))=false)] 0 (fun j M=>by kernel_rfl) (A1 (decide_eq_false (by omega)) A0) ⟨⟨by rw[hZ,show i=12 by omega]⟩,rfl⟩
theorem sTg8:sTgA_R [1,1,1,1,1,0,1] (sTgG k_5) .normal (fun z_=>∃(i:Nat) (Z:List Int) (k_6:sTgH_c k_4 i Z),z_=sTgH k_6):=by
  refine rn_loop (k:=0) (w:= [1,1,1,1,1,0,1]) (by kernel_rfl) (fun n_ z_=>∃(i:Nat) (Z:List Int) (k_5:sTgG_c k_4 i Z),n_=12 - i∧z_=sTgG k_5) _ ⟨_,_,k_5,rfl,rfl⟩ ?_
  rintro n_ _ ⟨i,Z,k_5,hn_,rfl⟩
  have⟨hH,hK,hN,hb1,hA,hb2,hX,hl⟩:=k_1
  have⟨hV⟩:=k_2
  have⟨hW⟩:=k_3
  have⟨hY⟩:=k_4
  have⟨hZ,hi⟩:=k_5
  by_cases hlt:i<12
  · exact(sTg6 hlt).x fun _ ⟨k_5,e_⟩=> .inl ⟨rfl,12 - (i+1),by omega,⟨_,_,k_5,rfl,e_⟩⟩
  · exact(sTg7 hlt).x fun _ ⟨k_6,e_⟩=> .inr ⟨rfl,⟨i,Z,k_6,e_⟩⟩
theorem sTg9:sTgA_R [1,1,1,1,1,0] (sTgF k_4) .normal (fun z_=>∃(i1:Nat) (Z1:List Int) (k_6:sTgH_c k_4 i1 Z1),z_=sTgH k_6):=by
  refine rn_seq (w:= [1,1,1,1,1,0]) (by kernel_rfl) sTg5 ?_
  rintro _ ⟨k_5,rfl⟩
  exact sTg8
structure sTgI_c (_:sTgF_c k_3 Y) (i:Nat) (Z D:List Int):Prop where
  hD:D=cutL (xrv Y N 12)
variable {D:List Int} {k_7:sTgI_c k_4 i Z D}
abbrev sTgI (_:sTgI_c k_4 i Z D):FS:=⟨false,51,[(6,.pointer (some ⟨3,0,none⟩)),(10,.pointer (some ⟨5,0,none⟩)),(11,.pointer (some ⟨6,0,none⟩))],[(a1,t1),(a2,t2),((wA .u8 16 HB),(22,(0,0))),((wA .u8 32 TK),(27,(0,0))),((wA .u8 12 N),(28,(0,0))),((wA .u8 16 []),(22,(0,0))),((wA .u8 16 D),(22,(0,0))),((wA .u8 16 (jnL ((8*l1:Nat):Int) ((8*l2:Nat):Int))),(22,(0,0)))]⟩
theorem sTg0a:sTgA_R [1,1,1,1,1,1,0] (sTgH k_6) .normal (fun z_=>∃(k_7:sTgI_c k_4 i Z (lset 16 Z 15 (bits .andNot .u8 (Z.getD 15 0) 128))),z_=sTgI k_7):=by
  have⟨hH,hK,hN,hb1,hA,hb2,hX,hl⟩:=id k_1
  have⟨hV⟩:=id k_2
  have⟨hW⟩:=id k_3
  have⟨hY⟩:=id k_4
  have⟨hZ⟩:=id k_6
  exact rn_ev (yty.enf tabW2 2) sTgA_h mixed _ none [some (.int .u8 (Z.getD 15 0)),none,some (.agg (wA .u8 16 [(Z.getD 0 0),(Z.getD 1 0),(Z.getD 2 0),(Z.getD 3 0),(Z.getD 4 0),(Z.getD 5 0),(Z.getD 6 0),(Z.getD 7 0),(Z.getD 8 0),(Z.getD 9 0),(Z.getD 10 0),(Z.getD 11 0),(Z.getD 12 0),(Z.getD 13 0),(Z.getD 14 0),(bits .andNot .u8 (Z.getD 15 0) 128)]))] [(0,bdN 15 16),(0,(((wA .u8 16 Z)[15]? =some (.int .u8 (Z.getD 15 0)))∧(Z.getD 15 0)=(Z.getD 15 0))),(2,bdN 15 16),(0,(15<(wA .u8 16 Z).size∧(wA .u8 16 Z).setIfInBounds (15) (.int .u8 (bits .andNot .u8 (Z.getD 15 0) 128))=(wA .u8 16 [(Z.getD 0 0),(Z.getD 1 0),(Z.getD 2 0),(Z.getD 3 0),(Z.getD 4 0),(Z.getD 5 0),(Z.getD 6 0),(Z.getD 7 0),(Z.getD 8 0),(Z.getD 9 0),(Z.getD 10 0),(Z.getD 11 0),(Z.getD 12 0),(Z.getD 13 0),(Z.getD 14 0),(bits .andNot .u8 (Z.getD 15 0) 128)])))] 0 (fun j M=>by kernel_rfl) (A1 (bdd rfl) (A1 ⟨(wA_get (by omega) (by omega)),rfl⟩ (A1 (bdd rfl) (A1 ⟨by rw[wA_size];omega,by kernel_rfl⟩ A0)))) ⟨⟨by rw[hZ];rfl⟩,rfl⟩
structure sTgJ_c (HB TK N A X:List Int) (a1 a2:Array Value) (t1 t2:Tq) (b1 b2:Option Addr) (l1 c1 l2 c2:Nat) (V W Y:List Int) (i:Nat) (Z D E:List Int):Prop where
  hE:E=tagL HB TK N A X
variable {E:List Int} {k_8:sTgJ_c HB TK N A X a1 a2 t1 t2 b1 b2 l1 c1 l2 c2 V W Y i Z D E}
abbrev sTgJ (_:sTgJ_c HB TK N A X a1 a2 t1 t2 b1 b2 l1 c1 l2 c2 V W Y i Z D E):FS:=⟨false,51,[(10,.pointer (some ⟨5,0,none⟩))],[(a1,t1),(a2,t2),((wA .u8 16 HB),(22,(0,0))),((wA .u8 32 TK),(27,(0,0))),((wA .u8 12 N),(28,(0,0))),((wA .u8 16 E),(22,(0,0))),((wA .u8 16 D),(22,(0,0))),((wA .u8 16 (jnL ((8*l1:Nat):Int) ((8*l2:Nat):Int))),(22,(0,0)))]⟩
theorem sTg0b:sTgA_R [1,1,1,1,1,1,1] (sTgI k_7) .ret (fun z_=>∃(k_8:sTgJ_c HB TK N A X a1 a2 t1 t2 b1 b2 l1 c1 l2 c2 V W Y i Z D (encL (dL8 (wA .u8 32 TK)) (dL8 (wA .u8 16 D)))),z_=sTgJ k_8):=by
  have⟨hH,hK,hN,hb1,hA,hb2,hX,hl⟩:=id k_1
  have⟨hV⟩:=id k_2
  have⟨hW⟩:=id k_3
  have⟨hY⟩:=id k_4
  have⟨hD⟩:=id k_7
  exact rn_ev (yty.enf tabW2 2) sTgA_h mixed _ none [] [(4,(((wA .u8 32 TK)=wA .u8 32 (dL8 (wA .u8 32 TK))∧By (dL8 (wA .u8 32 TK)))∧((wA .u8 16 D)=wA .u8 16 (dL8 (wA .u8 16 D))∧By (dL8 (wA .u8 16 D))))),(0,((wA .u8 16 (encL (dL8 (wA .u8 32 TK)) (dL8 (wA .u8 16 D)))).all (fun v=>v.oneCell')=true))] 0 (fun j M=>by kernel_rfl) (A1 ⟨dq hK,dq (by rw[hD];exact lset_by (xrv_by (by rw[hY];exact absL_by (by rw[hW];exact absL_by (by rw[hV];exact absL_by by_nil)))) (xb _ _ _))⟩ (A1 (wA_one _ _ _) A0)) ⟨⟨by rw[encL_q,hD,hY,hW,hV];unfold tagL tsL;rw[show A.length=l1 by rw[← hA];exact hb1.len,show X.length=l2 by rw[← hX];exact hb2.len]⟩,rfl⟩
theorem sTgu':sTgA_R [] (sTgA k_1) .ret (fun z_=>∃(i15:Nat) (Z15:List Int) (k_8:sTgJ_c HB TK N A X a1 a2 t1 t2 b1 b2 l1 c1 l2 c2 (absL (dL8 (wA .u8 16 HB)) (dL8 (wA .u8 16 [])) (bOf [(a1,t1),(a2,t2),((wA .u8 16 HB),(22,(0,0))),((wA .u8 32 TK),(27,(0,0))),((wA .u8 12 N),(28,(0,0))),((wA .u8 16 []),(22,(0,0)))] b1 l1)) (absL (dL8 (wA .u8 16 HB)) (dL8 (wA .u8 16 (absL (dL8 (wA .u8 16 HB)) (dL8 (wA .u8 16 [])) (bOf [(a1,t1),(a2,t2),((wA .u8 16 HB),(22,(0,0))),((wA .u8 32 TK),(27,(0,0))),((wA .u8 12 N),(28,(0,0))),((wA .u8 16 []),(22,(0,0)))] b1 l1)))) (bOf [(a1,t1),(a2,t2),((wA .u8 16 HB),(22,(0,0))),((wA .u8 32 TK),(27,(0,0))),((wA .u8 12 N),(28,(0,0))),((wA .u8 16 []),(22,(0,0))),((wA .u8 16 (absL (dL8 (wA .u8 16 HB)) (dL8 (wA .u8 16 [])) (bOf [(a1,t1),(a2,t2),((wA .u8 16 HB),(22,(0,0))),((wA .u8 32 TK),(27,(0,0))),((wA .u8 12 N),(28,(0,0))),((wA .u8 16 []),(22,(0,0)))] b1 l1))),(22,(0,0)))] b2 l2)) (absL (dL8 (wA .u8 16 HB)) (dL8 (wA .u8 16 (absL (dL8 (wA .u8 16 HB)) (dL8 (wA .u8 16 (absL (dL8 (wA .u8 16 HB)) (dL8 (wA .u8 16 [])) (bOf [(a1,t1),(a2,t2),((wA .u8 16 HB),(22,(0,0))),((wA .u8 32 TK),(27,(0,0))),((wA .u8 12 N),(28,(0,0))),((wA .u8 16 []),(22,(0,0)))] b1 l1)))) (bOf [(a1,t1),(a2,t2),((wA .u8 16 HB),(22,(0,0))),((wA .u8 32 TK),(27,(0,0))),((wA .u8 12 N),(28,(0,0))),((wA .u8 16 []),(22,(0,0))),((wA .u8 16 (absL (dL8 (wA .u8 16 HB)) (dL8 (wA .u8 16 [])) (bOf [(a1,t1),(a2,t2),((wA .u8 16 HB),(22,(0,0))),((wA .u8 32 TK),(27,(0,0))),((wA .u8 12 N),(28,(0,0))),((wA .u8 16 []),(22,(0,0)))] b1 l1))),(22,(0,0)))] b2 l2)))) (bOf [(a1,t1),(a2,t2),((wA .u8 16 HB),(22,(0,0))),((wA .u8 32 TK),(27,(0,0))),((wA .u8 12 N),(28,(0,0))),((wA .u8 16 []),(22,(0,0))),((wA .u8 16 (absL (dL8 (wA .u8 16 HB)) (dL8 (wA .u8 16 (absL (dL8 (wA .u8 16 HB)) (dL8 (wA .u8 16 [])) (bOf [(a1,t1),(a2,t2),((wA .u8 16 HB),(22,(0,0))),((wA .u8 32 TK),(27,(0,0))),((wA .u8 12 N),(28,(0,0))),((wA .u8 16 []),(22,(0,0)))] b1 l1)))) (bOf [(a1,t1),(a2,t2),((wA .u8 16 HB),(22,(0,0))),((wA .u8 32 TK),(27,(0,0))),((wA .u8 12 N),(28,(0,0))),((wA .u8 16 []),(22,(0,0))),((wA .u8 16 (absL (dL8 (wA .u8 16 HB)) (dL8 (wA .u8 16 [])) (bOf [(a1,t1),(a2,t2),((wA .u8 16 HB),(22,(0,0))),((wA .u8 32 TK),(27,(0,0))),((wA .u8 12 N),(28,(0,0))),((wA .u8 16 []),(22,(0,0)))] b1 l1))),(22,(0,0)))] b2 l2))),(22,(0,0))),((wA .u8 16 (jnL ((8*l1:Nat):Int) ((8*l2:Nat):Int))),(22,(0,0)))] (some ⟨7,0,none⟩) 16)) i15 Z15 (lset 16 Z15 15 (bits .andNot .u8 (Z15.getD 15 0) 128)) (encL (dL8 (wA .u8 32 TK)) (dL8 (wA .u8 16 (lset 16 Z15 15 (bits .andNot .u8 (Z15.getD 15 0) 128)))))),z_=sTgJ k_8):=by
  refine rn_seq (w:= []) (by kernel_rfl) sTg0 ?_
  rintro _ rfl
  refine rn_seq (w:= [1]) (by kernel_rfl) sTg1 ?_
  rintro _ ⟨k_2,rfl⟩
  refine rn_seq (w:= [1,1]) (by kernel_rfl) sTg2 ?_
  rintro _ ⟨k_3,rfl⟩
  refine rn_seq (w:= [1,1,1]) (by kernel_rfl) sTg3 ?_
  rintro _ rfl
  refine rn_seq (w:= [1,1,1,1]) (by kernel_rfl) sTg4 ?_
  rintro _ ⟨k_4,rfl⟩
  refine rn_seq (w:= [1,1,1,1,1]) (by kernel_rfl) sTg9 ?_
  rintro _ ⟨i15,Z15,k_6,rfl⟩
  refine rn_seq (w:= [1,1,1,1,1,1]) (by kernel_rfl) sTg0a ?_
  rintro _ ⟨k_7,rfl⟩
  exact(sTg0b).mono fun _ ⟨k_8,e_⟩=>⟨i15,Z15,k_8,e_⟩
abbrev sTgA_s (HB TK N A X:List Int) (a1 a2:Array Value) (t1 t2:Tq) (b1 b2:Option Addr) (l1 c1 l2 c2:Nat) (j:Nat→Value):List Value:=([.agg (wA .u8 16 HB),.agg (wA .u8 32 TK),.agg (wA .u8 12 N),.slice b1 l1 c1,.slice b2 l2 c2] ++ (JU 46))
abbrev sTgA_m (HB TK N A X:List Int) (a1 a2:Array Value) (t1 t2:Tq) (b1 b2:Option Addr) (l1 c1 l2 c2:Nat):List Mb:= [(a1,t1),(a2,t2)]
abbrev sTgJ_s (HB TK N A X:List Int) (a1 a2:Array Value) (t1 t2:Tq) (b1 b2:Option Addr) (l1 c1 l2 c2:Nat) (V W Y:List Int) (i:Nat) (Z:List Int) (D E:List Int) (j:Nat→Value):List Value:=(J j 0 10 ++ ([.pointer (some ⟨5,0,none⟩)] ++ (J j 11 40)))
abbrev sTgJ_m (HB TK N A X:List Int) (a1 a2:Array Value) (t1 t2:Tq) (b1 b2:Option Addr) (l1 c1 l2 c2:Nat) (V W Y:List Int) (i:Nat) (Z:List Int) (D E:List Int):List Mb:= [(a1,t1),(a2,t2),((wA .u8 16 HB),(22,(0,0))),((wA .u8 32 TK),(27,(0,0))),((wA .u8 12 N),(28,(0,0))),((wA .u8 16 E),(22,(0,0))),((wA .u8 16 D),(22,(0,0))),((wA .u8 16 (jnL ((8*l1:Nat):Int) ((8*l2:Nat):Int))),(22,(0,0)))]
theorem sTgu (HB TK N A X:List Int) (a1 a2:Array Value) (t1 t2:Tq) (b1 b2:Option Addr) (l1 c1 l2 c2:Nat) (j:Nat→Value) (hH:By HB) (hK:By TK) (hN:By N) (hb1:BkOk [(a1,t1),(a2,t2)] b1 l1 c1) (hA:bOf [(a1,t1),(a2,t2)] b1 l1=A) (hb2:BkOk [(a1,t1),(a2,t2)] b2 l2 c2) (hX:bOf [(a1,t1),(a2,t2)] b2 l2=X) (hl:l1≤1000000000∧l2≤1000000000)  {c0:Prop} {ch0:List (Option Value)}:Runs Try.prog (cAt [] (bdy Try.f35)) ⟨sTgA_s HB TK N A X a1 a2 t1 t2 b1 b2 l1 c1 l2 c2 j,sTgA_m HB TK N A X a1 a2 t1 t2 b1 b2 l1 c1 l2 c2,c0,ch0⟩ (fun e s=>e= .ret∧∃(i15:Nat) (Z15:List Int) (j:Nat→Value) (c:Prop) (ch:List (Option Value)),((encL (dL8 (wA .u8 32 TK)) (dL8 (wA .u8 16 (lset 16 Z15 15 (bits .andNot .u8 (Z15.getD 15 0) 128)))))=tagL HB TK N A X)∧s=⟨sTgJ_s HB TK N A X a1 a2 t1 t2 b1 b2 l1 c1 l2 c2 (absL (dL8 (wA .u8 16 HB)) (dL8 (wA .u8 16 [])) (bOf [(a1,t1),(a2,t2),((wA .u8 16 HB),(22,(0,0))),((wA .u8 32 TK),(27,(0,0))),((wA .u8 12 N),(28,(0,0))),((wA .u8 16 []),(22,(0,0)))] b1 l1)) (absL (dL8 (wA .u8 16 HB)) (dL8 (wA .u8 16 (absL (dL8 (wA .u8 16 HB)) (dL8 (wA .u8 16 [])) (bOf [(a1,t1),(a2,t2),((wA .u8 16 HB),(22,(0,0))),((wA .u8 32 TK),(27,(0,0))),((wA .u8 12 N),(28,(0,0))),((wA .u8 16 []),(22,(0,0)))] b1 l1)))) (bOf [(a1,t1),(a2,t2),((wA .u8 16 HB),(22,(0,0))),((wA .u8 32 TK),(27,(0,0))),((wA .u8 12 N),(28,(0,0))),((wA .u8 16 []),(22,(0,0))),((wA .u8 16 (absL (dL8 (wA .u8 16 HB)) (dL8 (wA .u8 16 [])) (bOf [(a1,t1),(a2,t2),((wA .u8 16 HB),(22,(0,0))),((wA .u8 32 TK),(27,(0,0))),((wA .u8 12 N),(28,(0,0))),((wA .u8 16 []),(22,(0,0)))] b1 l1))),(22,(0,0)))] b2 l2)) (absL (dL8 (wA .u8 16 HB)) (dL8 (wA .u8 16 (absL (dL8 (wA .u8 16 HB)) (dL8 (wA .u8 16 (absL (dL8 (wA .u8 16 HB)) (dL8 (wA .u8 16 [])) (bOf [(a1,t1),(a2,t2),((wA .u8 16 HB),(22,(0,0))),((wA .u8 32 TK),(27,(0,0))),((wA .u8 12 N),(28,(0,0))),((wA .u8 16 []),(22,(0,0)))] b1 l1)))) (bOf [(a1,t1),(a2,t2),((wA .u8 16 HB),(22,(0,0))),((wA .u8 32 TK),(27,(0,0))),((wA .u8 12 N),(28,(0,0))),((wA .u8 16 []),(22,(0,0))),((wA .u8 16 (absL (dL8 (wA .u8 16 HB)) (dL8 (wA .u8 16 [])) (bOf [(a1,t1),(a2,t2),((wA .u8 16 HB),(22,(0,0))),((wA .u8 32 TK),(27,(0,0))),((wA .u8 12 N),(28,(0,0))),((wA .u8 16 []),(22,(0,0)))] b1 l1))),(22,(0,0)))] b2 l2)))) (bOf [(a1,t1),(a2,t2),((wA .u8 16 HB),(22,(0,0))),((wA .u8 32 TK),(27,(0,0))),((wA .u8 12 N),(28,(0,0))),((wA .u8 16 []),(22,(0,0))),((wA .u8 16 (absL (dL8 (wA .u8 16 HB)) (dL8 (wA .u8 16 (absL (dL8 (wA .u8 16 HB)) (dL8 (wA .u8 16 [])) (bOf [(a1,t1),(a2,t2),((wA .u8 16 HB),(22,(0,0))),((wA .u8 32 TK),(27,(0,0))),((wA .u8 12 N),(28,(0,0))),((wA .u8 16 []),(22,(0,0)))] b1 l1)))) (bOf [(a1,t1),(a2,t2),((wA .u8 16 HB),(22,(0,0))),((wA .u8 32 TK),(27,(0,0))),((wA .u8 12 N),(28,(0,0))),((wA .u8 16 []),(22,(0,0))),((wA .u8 16 (absL (dL8 (wA .u8 16 HB)) (dL8 (wA .u8 16 [])) (bOf [(a1,t1),(a2,t2),((wA .u8 16 HB),(22,(0,0))),((wA .u8 32 TK),(27,(0,0))),((wA .u8 12 N),(28,(0,0))),((wA .u8 16 []),(22,(0,0)))] b1 l1))),(22,(0,0)))] b2 l2))),(22,(0,0))),((wA .u8 16 (jnL ((8*l1:Nat):Int) ((8*l2:Nat):Int))),(22,(0,0)))] (some ⟨7,0,none⟩) 16)) i15 Z15 (lset 16 Z15 15 (bits .andNot .u8 (Z15.getD 15 0) 128)) (encL (dL8 (wA .u8 32 TK)) (dL8 (wA .u8 16 (lset 16 Z15 15 (bits .andNot .u8 (Z15.getD 15 0) 128))))) j,sTgJ_m HB TK N A X a1 a2 t1 t2 b1 b2 l1 c1 l2 c2 (absL (dL8 (wA .u8 16 HB)) (dL8 (wA .u8 16 [])) (bOf [(a1,t1),(a2,t2),((wA .u8 16 HB),(22,(0,0))),((wA .u8 32 TK),(27,(0,0))),((wA .u8 12 N),(28,(0,0))),((wA .u8 16 []),(22,(0,0)))] b1 l1)) (absL (dL8 (wA .u8 16 HB)) (dL8 (wA .u8 16 (absL (dL8 (wA .u8 16 HB)) (dL8 (wA .u8 16 [])) (bOf [(a1,t1),(a2,t2),((wA .u8 16 HB),(22,(0,0))),((wA .u8 32 TK),(27,(0,0))),((wA .u8 12 N),(28,(0,0))),((wA .u8 16 []),(22,(0,0)))] b1 l1)))) (bOf [(a1,t1),(a2,t2),((wA .u8 16 HB),(22,(0,0))),((wA .u8 32 TK),(27,(0,0))),((wA .u8 12 N),(28,(0,0))),((wA .u8 16 []),(22,(0,0))),((wA .u8 16 (absL (dL8 (wA .u8 16 HB)) (dL8 (wA .u8 16 [])) (bOf [(a1,t1),(a2,t2),((wA .u8 16 HB),(22,(0,0))),((wA .u8 32 TK),(27,(0,0))),((wA .u8 12 N),(28,(0,0))),((wA .u8 16 []),(22,(0,0)))] b1 l1))),(22,(0,0)))] b2 l2)) (absL (dL8 (wA .u8 16 HB)) (dL8 (wA .u8 16 (absL (dL8 (wA .u8 16 HB)) (dL8 (wA .u8 16 (absL (dL8 (wA .u8 16 HB)) (dL8 (wA .u8 16 [])) (bOf [(a1,t1),(a2,t2),((wA .u8 16 HB),(22,(0,0))),((wA .u8 32 TK),(27,(0,0))),((wA .u8 12 N),(28,(0,0))),((wA .u8 16 []),(22,(0,0)))] b1 l1)))) (bOf [(a1,t1),(a2,t2),((wA .u8 16 HB),(22,(0,0))),((wA .u8 32 TK),(27,(0,0))),((wA .u8 12 N),(28,(0,0))),((wA .u8 16 []),(22,(0,0))),((wA .u8 16 (absL (dL8 (wA .u8 16 HB)) (dL8 (wA .u8 16 [])) (bOf [(a1,t1),(a2,t2),((wA .u8 16 HB),(22,(0,0))),((wA .u8 32 TK),(27,(0,0))),((wA .u8 12 N),(28,(0,0))),((wA .u8 16 []),(22,(0,0)))] b1 l1))),(22,(0,0)))] b2 l2)))) (bOf [(a1,t1),(a2,t2),((wA .u8 16 HB),(22,(0,0))),((wA .u8 32 TK),(27,(0,0))),((wA .u8 12 N),(28,(0,0))),((wA .u8 16 []),(22,(0,0))),((wA .u8 16 (absL (dL8 (wA .u8 16 HB)) (dL8 (wA .u8 16 (absL (dL8 (wA .u8 16 HB)) (dL8 (wA .u8 16 [])) (bOf [(a1,t1),(a2,t2),((wA .u8 16 HB),(22,(0,0))),((wA .u8 32 TK),(27,(0,0))),((wA .u8 12 N),(28,(0,0))),((wA .u8 16 []),(22,(0,0)))] b1 l1)))) (bOf [(a1,t1),(a2,t2),((wA .u8 16 HB),(22,(0,0))),((wA .u8 32 TK),(27,(0,0))),((wA .u8 12 N),(28,(0,0))),((wA .u8 16 []),(22,(0,0))),((wA .u8 16 (absL (dL8 (wA .u8 16 HB)) (dL8 (wA .u8 16 [])) (bOf [(a1,t1),(a2,t2),((wA .u8 16 HB),(22,(0,0))),((wA .u8 32 TK),(27,(0,0))),((wA .u8 12 N),(28,(0,0))),((wA .u8 16 []),(22,(0,0)))] b1 l1))),(22,(0,0)))] b2 l2))),(22,(0,0))),((wA .u8 16 (jnL ((8*l1:Nat):Int) ((8*l2:Nat):Int))),(22,(0,0)))] (some ⟨7,0,none⟩) 16)) i15 Z15 (lset 16 Z15 15 (bits .andNot .u8 (Z15.getD 15 0) 128)) (encL (dL8 (wA .u8 32 TK)) (dL8 (wA .u8 16 (lset 16 Z15 15 (bits .andNot .u8 (Z15.getD 15 0) 128))))),c,ch⟩) 2:=by
  refine(Rn.old (sTgu' (k_1:=(⟨hH,hK,hN,hb1,hA,hb2,hX,hl⟩:sTgA_c HB TK N A X a1 a2 t1 t2 b1 b2 l1 c1 l2 c2))) j (by kernel_rfl)).mono ?_
  rintro e s ⟨rfl,_,⟨i15,Z15,k_8,rfl⟩,j,c,ch,rfl⟩
  have⟨x_hE⟩:=k_8
  exact⟨rfl,i15,Z15,j,c,ch,x_hE,by kernel_rfl⟩
theorem BkOk.okp {mem:List Mb} {bp:Option Addr} {r q:Nat} (h:BkOk mem bp r q):okp mem.length (.slice bp r q)=true:=by
  obtain⟨_,⟨rfl,_⟩|⟨i,o,a,t,rfl,hm,_,_⟩⟩:=h
  · rfl
  · simp only [Go.Ev.okp, Bool.or_eq_true, decide_eq_true_eq]
    exact .inl (List.getElem?_eq_some_iff.1 hm).1
theorem BkOk.lift {m:Mb} {g:List Mb} {bp:Option Addr} {r q:Nat} (h:BkOk (m :: g) bp r q) (k:Nat):∃(i:Nat) (x:Mb) (bq:Option Addr),(m :: g)[i]? =some x∧(∀ β β':Nat→Nat,β' k=β i→rn β' (.slice bq r q)=rn β (.slice bp r q))∧∀ M:List Mb,M[k]? =some x→BkOk M bq r q∧bOf M bq r=bOf (m :: g) bp r:=by
  obtain⟨hq,⟨rfl,rfl,h0⟩|⟨i,o,a,t,rfl,hm,hb,hz⟩⟩:=h
  · exact⟨0,m,none,rfl,fun _ _ _=>rfl,fun M _=>⟨⟨hq,.inl ⟨rfl,rfl,h0⟩⟩,rfl⟩⟩
  · exact⟨i,(a,t),some ⟨k,o,none⟩,hm,fun β β' e=>by simp only[rn,e],fun M hM=>⟨⟨hq,.inr ⟨k,o,a,t,rfl,hM,hb,hz⟩⟩,by simp only[bOf,hM,hm]⟩⟩
theorem sTg_c (HB TK N:List Int) (a1 a2:Array Value) (t1 t2:Tq) (b1 b2:Option Addr) (l1 c1 l2 c2:Nat) (hH:By HB) (hK:By TK) (hN:By N) (hb1:BkOk [(a1,t1),(a2,t2)] b1 l1 c1) (hb2:BkOk [(a1,t1),(a2,t2)] b2 l2 c2) (hl:l1≤1000000000∧l2≤1000000000):Reads Try.prog 35 [(a1,t1),(a2,t2)] [.agg (wA .u8 16 HB),.agg (wA .u8 32 TK),.agg (wA .u8 12 N),.slice b1 l1 c1,.slice b2 l2 c2] (.agg (wA .u8 16 (tagL HB TK N (bOf [(a1,t1),(a2,t2)] b1 l1) (bOf [(a1,t1),(a2,t2)] b2 l2)))):=by
  have ha: [Value.agg (wA .u8 16 HB),.agg (wA .u8 32 TK),.agg (wA .u8 12 N),.slice b1 l1 c1,.slice b2 l2 c2].all (okp (2%big))=true:=by
    have h1:Go.Ev.okp 2 (.slice b1 l1 c1)=true:=hb1.okp
    have h2:Go.Ev.okp 2 (.slice b2 l2 c2)=true:=hb2.okp
    show(true && (true && (true && (Go.Ev.okp 2 (.slice b1 l1 c1) && (Go.Ev.okp 2 (.slice b2 l2 c2) && true)))))=true
    rw[h1,h2];rfl
  refine reads_runs (fk:=2) (yty.enf tabW2 2) Try.func35 (c:=bdy Try.f35) (by kernel_rfl) ⟨by rfl,by decide⟩ (args:= [.agg (wA .u8 16 HB),.agg (wA .u8 32 TK),.agg (wA .u8 12 N),.slice b1 l1 c1,.slice b2 l2 c2]) ha (K:=fun e s=>e= .ret∧resS (yty.enf tabW2 2) s Try.f35.results.toList=some [.agg (wA .u8 16 (tagL HB TK N (bOf [(a1,t1),(a2,t2)] b1 l1) (bOf [(a1,t1),(a2,t2)] b2 l2)))]) ?_ (fun e s h=>⟨h.1,_,h.2,rfl⟩)
  refine(sTgu HB TK N _ _ a1 a2 t1 t2 b1 b2 l1 c1 l2 c2 (fun _=>undef) hH hK hN hb1 rfl hb2 rfl hl).mono ?_
  rintro e s ⟨rfl,i,Z,j,c,ch,hE,rfl⟩
  rw[← hE]
  exact⟨rfl,by kernel_rfl⟩
def ptg : Entry Try.prog where
  f:=35
  g := fun mem xs => match mem, xs with
    |m :: g,[.agg h,.agg k,.agg n,.slice b1 l1 c1,.slice b2 l2 c2]=>some (.agg (wA .u8 16 (tagL (dL8 h) (dL8 k) (dL8 n) (bOf (m :: g) b1 l1) (bOf (m :: g) b2 l2))),(((h=wA .u8 16 (dL8 h)∧By (dL8 h))∧(k=wA .u8 32 (dL8 k)∧By (dL8 k))∧(n=wA .u8 12 (dL8 n)∧By (dL8 n)))∧(BkOk (m :: g) b1 l1 c1∧BkOk (m :: g) b2 l2 c2)∧l1≤1000000000∧l2≤1000000000))
    |_,_=>none
  ok := fun mem xs v c e hc w β hw _ => by
    split at e
    · rename_i m g h k n b1 l1 c1 b2 l2 c2
      simp only[Option.some.injEq,Prod.mk.injEq] at e
      obtain⟨rfl,rfl⟩:=e
      obtain⟨⟨⟨h1,h2⟩,⟨h3,h4⟩,h5,h6⟩,⟨hb1,hb2⟩,hl⟩:=hc
      obtain⟨i1,x1,q1,hm1,hr1,hB1⟩:=hb1.lift 0
      obtain⟨i2,x2,q2,hm2,hr2,hB2⟩:=hb2.lift 1
      obtain⟨a1,t1⟩:=x1
      obtain⟨a2,t2⟩:=x2
      obtain⟨B1,E1⟩:=hB1 [(a1,t1),(a2,t2)] rfl
      obtain⟨B2,E2⟩:=hB2 [(a1,t1),(a2,t2)] rfl
      have := sTg_c (dL8 h) (dL8 k) (dL8 n) a1 a2 t1 t2 q1 q2 l1 c1 l2 c2 h2 h4 h6 B1 B2 hl w (fun k => if k = 0 then β i1 else β i2) (fun k x hx => by
        match k,hx with
        | 0, hx =>
          simp only[List.getElem?_cons_zero,Option.some.injEq] at hx
          subst hx
          exact hw i1 _ hm1
        | 1, hx =>
          simp only[List.getElem?_cons_succ,List.getElem?_cons_zero,Option.some.injEq] at hx
          subst hx
          exact hw i2 _ hm2
        |q+2,hx=>simp at hx) (fun i hi=>by omega)
      rw[E1,E2,← h1,← h3,← h5] at this
      simp only[List.map_cons,List.map_nil,hr1 β (fun k=>if k=0 then β i1 else β i2) rfl,hr2 β (fun k=>if k=0 then β i1 else β i2) rfl] at this
      exact this
    · cases e
  call:=call_of Try.func35 (by kernel_rfl) (by kernel_rfl)
def tabW3:List (Entry Try.prog):=ptg :: tabW2
end Go.Proofs.Ythldpfindbhkeaa
