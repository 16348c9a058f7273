import Derived.Test.YtcfnjcacdmkgbaaDoorZMEndsMcA1
import Derived.Laws.Closers25b
import Derived.Test.YtcfnjcacdmkgbaaDoorZMEndsShK1
import Derived.Test.YtcfnjcacdmkgbaaDoorZMEndsEvW1
import Derived.Test.YtcfnjcacdmkgbaaDoorZMEndsByA1
set_option linter.unusedSimpArgs false
set_option linter.unusedVariables false
/-! mac: masked as a maker, HMAC of a block. -/
namespace Go.Proofs.YtcfnjcacdmkgbaaDoor
open Go.RowKit Go.Ev
variable {c0:Prop} {ch0:List (Option Value)}
def BytesOk (mem:List Mb) (bp:Option Addr) (l cp:Nat):Prop:=(bp=none∧l=0∧cp=0)∨∃(i o:Nat) (src:Array Value) (st:Tq),bp=some ⟨i,o,none⟩∧mem[i]? =some (src,st)∧bytesAt src o l∧o+l≤src.size∧l≤cp
theorem BytesOk.len {mem:List Mb} {bp:Option Addr} {l cp:Nat} (h:BytesOk mem bp l cp):(bytesOf mem bp l).length=l:=by
  rcases h with⟨rfl,rfl,rfl⟩|⟨i,o,src,st,rfl,hm,_⟩
  · rfl
  · simp only[bytesOf,hm,bL_len]
theorem BytesOk.src {mem:List Mb} {bp:Option Addr} {l cp:Nat} (h:BytesOk mem bp l cp):SrcOk .u8 mem (.slice bp l cp) (bytesOf mem bp l):=by
  rcases h with⟨rfl,rfl,rfl⟩|⟨i,o,src,st,rfl,hm,hb,hz,hc⟩
  · exact src_nil
  · have := src_b (c := cp) hm hb hz
    simp only[bytesOf,hm]
    exact this
theorem BytesOk.bt {mem:List Mb} {bp:Option Addr} {l cp:Nat} (h:BytesOk mem bp l cp):∀ x ∈ bytesOf mem bp l,0≤x∧x<256:=by
  rcases h with⟨rfl,rfl,rfl⟩|⟨i,o,src,st,rfl,hm,hb,hz,hc⟩
  · intro x hx;simp[bytesOf] at hx
  · intro x hx
    simp only[bytesOf,hm] at hx
    obtain⟨j,hj,rfl⟩:=List.mem_map.1 hx
    exact(hb j (by simpa using hj)).2
theorem maskL_bt {N:List Int} {b:Int}:∀ x ∈ maskL N b,0≤x∧x<256:=fun x hx=>by
  obtain⟨y,_,rfl⟩:=List.mem_map.1 hx
  have h0:=bits_lo_u8 .xor y b
  have h1:=bits_hi_u8 .xor y b
  omega
theorem app_bt {L N:List Int} (h1:∀ x ∈ L,0≤x∧x<256) (h2:∀ x ∈ N,0≤x∧x<256):∀ x ∈ L ++ N,0≤x∧x<256:=fun x hx=>by
  rcases List.mem_append.1 hx with h|h
  · exact h1 x h
  · exact h2 x h
theorem bL_bt {a:Array Value} {o l:Nat} (h:bytesAt a o l):∀ x ∈ bL a o l,0≤x∧x<256:=fun x hx=>by
  obtain⟨j,hj,rfl⟩:=List.mem_map.1 hx
  exact(h j (by simpa using hj)).2
theorem Masks_some (K:Array Value) (tk:Tq) (n cp:Nat) (b:Int) (a:Array Value) (t:Tq) (p l c2:Nat) (hb:bytesAt K 0 n) (hn:n≤1000000000) (ha:bytesAt a p l) (hz:p+l≤a.size) (hl:l≤1000000000) (hlc:l≤c2):Makes Tryd.prog 36 [(K,tk),(a,t)] [.slice (some ⟨0,0,none⟩) n cp,.int .u8 b,.slice (some ⟨1,p,none⟩) l c2] (wA .u8 (n+l) (maskL (bL K 0 n) b ++ bL a p l)) 5 (n+l) (n+l):=by
  refine makes_runs (fk:=2) Tryd.func36 (c:=bdy Tryd.f36) (by kernel_rfl) ⟨rfl,by decide⟩ (args:= [.slice (some ⟨0,0,none⟩) n cp,.int .u8 b,.slice (some ⟨1,p,none⟩) l c2]) rfl (r:=6) (by kernel_rfl) (mssu K tk n cp b a t p l c2 (fun _=>undef) hb hn ha hz hl hlc) ?_
  rintro e s ⟨rfl,hh⟩
  obtain⟨k,Y,j,c,ch,_,_,_,_,rfl⟩:=hh
  exact⟨rfl,2,by decide,rfl,rfl⟩
theorem Masks_nil (K:Array Value) (tk:Tq) (n cp:Nat) (b:Int) (hb:bytesAt K 0 n) (hn:n≤1000000000):Makes Tryd.prog 36 [(K,tk)] [.slice (some ⟨0,0,none⟩) n cp,.int .u8 b,.slice none 0 0] (wA .u8 n (maskL (bL K 0 n) b)) 5 n n:=by
  refine makes_runs (fk:=1) Tryd.func36 (c:=bdy Tryd.f36) (by kernel_rfl) ⟨rfl,by decide⟩ (args:= [.slice (some ⟨0,0,none⟩) n cp,.int .u8 b,.slice none 0 0]) rfl (r:=6) (by kernel_rfl) (msnu K tk n cp b (fun _=>undef) hb hn) ?_
  rintro e s ⟨rfl,hh⟩
  obtain⟨k,Y,j,c,ch,_,_,_,_,rfl⟩:=hh
  exact⟨rfl,1,by decide,rfl,rfl⟩
def mMask : Maker Tryd.prog where
  f:=36
  g := fun mem xs => match xs with
    | [.slice (some ⟨i, 0, none⟩) n c1, .int .u8 b, .slice bp l c2] => (match mem[i]? with
      |some (cs,_)=>some (wA .u8 (n+l) (maskL (bL cs 0 n) b ++ bytesOf mem bp l),5,n+l,n+l,(bytesAt cs 0 n∧n≤1000000000∧BytesOk mem bp l c2∧l≤1000000000))
      |none=>none)
    |_=>none
  ok := fun mem xs cs t n k c e hc w β hw _ => by
    split at e
    · rename_i i n1 c1 b bp l c2
      split at e
      · rename_i Kc tk hK
        simp only[Option.some.injEq,Prod.mk.injEq] at e
        obtain⟨rfl,rfl,rfl,rfl,rfl⟩:=e
        obtain⟨hb,hn,hB,hl⟩:=hc
        rcases hB with⟨rfl,rfl,rfl⟩|⟨j,o,src,st,rfl,hm,ha,hz,hlc⟩
        · have h := Masks_nil Kc tk n1 c1 b hb hn w (fun _ => β i) (fun q x hx => by
            cases q with
            | zero =>
              simp only[List.getElem?_cons_zero,Option.some.injEq] at hx
              subst hx
              exact hw i _ hK
            |succ q=>simp at hx) (fun q hq=>by omega)
          simp only[bytesOf,List.append_nil,Nat.add_zero]
          exact h
        · have h := Masks_some Kc tk n1 c1 b src st o l c2 hb hn ha hz hl hlc w (fun q => if q = 0 then β i else β j) (fun q x hx => by
            match q,hx with
            | 0, hx =>
              simp only[List.getElem?_cons_zero,Option.some.injEq] at hx
              subst hx
              exact hw i _ hK
            | 1, hx =>
              simp only[List.getElem?_cons_succ,List.getElem?_cons_zero,Option.some.injEq] at hx
              subst hx
              exact hw j _ hm
            |q+2,hx=>simp at hx) (fun q hq=>by omega)
          simp only[bytesOf,hm]
          exact h
      · cases e
    · cases e
  call:=call_of Tryd.func36 (by kernel_rfl) (by kernel_rfl)
def hm2 (B:Array Value) (N:List Int):List Int:=sh2 (maskL (bL B 0 64) 92 ++ sh2 (maskL (bL B 0 64) 54 ++ N))
def hmnA_h (i:Nat):Hn:=if i=2 then⟨4,[],[],[],[]⟩ else⟨0,[],[],[],[]⟩
abbrev hmnA_R (w:List Nat) (S:FS) (e:Exit) (K:FS→Prop):Prop:=Rn Tryd.prog (cAt w (bdy Tryd.f33)) S e K 2000002
structure hmnA_c (g0 g1:Tq) (B:Array Value):Prop where
  hB:bytesAt B 0 64
  hs:B.size=64
  h1:B.all (fun v=>v.oneCell')=true
variable {g0 g1:Tq} {B:Array Value} {k_1:hmnA_c g0 g1 B}
abbrev hmnA (_:hmnA_c g0 g1 B):FS:=⟨true,14,[(0,.agg B),(1,.slice none 0 0)],[((wA .u32 64 kL2),g0),((wA .u64 80 kL5),g1)]⟩
abbrev hmnB (_:hmnA_c g0 g1 B):FS:=⟨false,14,[(1,.slice none 0 0),(2,.pointer (some ⟨2,0,none⟩)),(4,.pointer (some ⟨3,0,none⟩))],[((wA .u32 64 kL2),g0),((wA .u64 80 kL5),g1),(B,(29,(0,0))),((wA .u8 32 []),(25,(0,0)))]⟩
theorem hmn0:hmnA_R [0] (hmnA k_1) .normal (fun z_=>z_=hmnB k_1):=rn_ev (yty.enm tabS8 [mMask] 2000002) hmnA_h mixed _ none [] [] 0 (fun j M=>by kernel_rfl) A0 rfl
structure hmnC_c (_:hmnA_c g0 g1 B) (S:List Int):Prop where
  hS:S=sh2 (maskL (bL B 0 64) 54 ++ ([]:List Int))
variable {S:List Int} {k_2:hmnC_c k_1 S}
abbrev hmnC (_:hmnC_c k_1 S):FS:=⟨false,14,[(2,.pointer (some ⟨2,0,none⟩)),(4,.pointer (some ⟨3,0,none⟩)),(5,.pointer (some ⟨5,0,none⟩))],[((wA .u32 64 kL2),g0),((wA .u64 80 kL5),g1),(B,(29,(0,0))),((wA .u8 32 []),(25,(0,0))),((wA .u8 64 (maskL (bL B 0 64) 54 ++ ([]:List Int))),(5,(0,0))),((wA .u8 32 S),(25,(0,0)))]⟩
theorem hmn1:hmnA_R [1,0] (hmnB k_1) .normal (fun z_=>∃(k_2:hmnC_c k_1 (sum2 (wA .u8 64 (maskL (bL B 0 64) 54 ++ ([]:List Int))) 0 64)),z_=hmnC k_2):=by
  have⟨hB,hs,h1⟩:=id k_1
  exact rn_ev (yty.enm tabS8 [mMask] 2000002) hmnA_h mixed _ none [] [(4,(bytesAt B 0 64∧64≤1000000000∧BytesOk [((wA .u32 64 kL2),g0),((wA .u64 80 kL5),g1),(B,(29,(0,0))),((wA .u8 32 []),(25,(0,0)))] none 0 0∧0≤1000000000)),(0,((wA .u32 64 kL2)=wA .u32 64 kL2∧(wA .u64 80 kL5)=wA .u64 80 kL5∧bytesAt (wA .u8 64 (maskL (bL B 0 64) 54 ++ ([]:List Int))) 0 64∧0+64≤(wA .u8 64 (maskL (bL B 0 64) 54 ++ ([]:List Int))).size∧64≤64∧64<1152921504606846976)),(0,((wA .u8 32 (sum2 (wA .u8 64 (maskL (bL B 0 64) 54 ++ ([]:List Int))) 0 64)).all (fun v=>v.oneCell')=true))] 0 (fun j M=>by kernel_rfl) (A1 ⟨hB,by decide,(.inl ⟨rfl,rfl,rfl⟩),by decide⟩ (A1 ⟨rfl,rfl,bytes_wA (app_bt maskL_bt (fun x hx=>by simp at hx)),by rw[wA_size];omega,by omega,by omega⟩ (A1 (wA_one _ _ _) A0))) ⟨⟨(sum2_sh (bytes_wA (app_bt maskL_bt (fun x hx=>by simp at hx))) (by omega)).trans (congrArg sh2 (bL_wA (by simp only[List.length_append,maskL_len,bL_len,List.length_nil])))⟩,rfl⟩
structure hmnD_c (_:hmnC_c k_1 S) (X:List Int):Prop where
  hX:X=hm2 B ([]:List Int)
variable {X:List Int} {k_3:hmnD_c k_2 X}
abbrev hmnD (_:hmnD_c k_2 X):FS:=⟨false,14,[(4,.pointer (some ⟨3,0,none⟩))],[((wA .u32 64 kL2),g0),((wA .u64 80 kL5),g1),(B,(29,(0,0))),((wA .u8 32 X),(25,(0,0))),((wA .u8 64 (maskL (bL B 0 64) 54 ++ ([]:List Int))),(5,(0,0))),((wA .u8 32 S),(25,(0,0))),((wA .u8 96 (maskL (bL B 0 64) 92 ++ bL (wA .u8 32 S) 0 32)),(5,(0,0)))]⟩
def hmn2_h (i:Nat):Hn:=if i=2 then⟨0,[(0,true),(1,true),(2,false),(3,false),(4,false)],[],[0,1,2,4,5],[]⟩ else hmnA_h i
theorem hmn2:hmnA_R [1,1] (hmnC k_2) .ret (fun z_=>∃(k_3:hmnD_c k_2 (sum2 (wA .u8 96 (maskL (bL B 0 64) 92 ++ bL (wA .u8 32 S) 0 32)) 0 96)),z_=hmnD k_3):=by
  have⟨hB,hs,h1⟩:=id k_1
  have⟨hS⟩:=id k_2
  exact rn_ev (yty.enm tabS8 [mMask] 2000002) hmn2_h mixed _ none [] [(4,(bytesAt B 0 64∧64≤1000000000∧BytesOk [((wA .u32 64 kL2),g0),((wA .u64 80 kL5),g1),(B,(29,(0,0))),((wA .u8 32 []),(25,(0,0))),((wA .u8 64 (maskL (bL B 0 64) 54 ++ ([]:List Int))),(5,(0,0))),((wA .u8 32 S),(25,(0,0)))] (some ⟨5,0,none⟩) 32 32∧32≤1000000000)),(0,((wA .u32 64 kL2)=wA .u32 64 kL2∧(wA .u64 80 kL5)=wA .u64 80 kL5∧bytesAt (wA .u8 96 (maskL (bL B 0 64) 92 ++ (bL (wA .u8 32 S) 0 32))) 0 96∧0+96≤(wA .u8 96 (maskL (bL B 0 64) 92 ++ (bL (wA .u8 32 S) 0 32))).size∧96≤96∧96<1152921504606846976)),(0,((wA .u8 32 (sum2 (wA .u8 96 (maskL (bL B 0 64) 92 ++ (bL (wA .u8 32 S) 0 32))) 0 96)).all (fun v=>v.oneCell')=true))] 0 (fun j M=>by kernel_rfl) (A1 ⟨hB,by decide,.inr ⟨5,0,_,_,rfl,rfl,(by rw[hS];exact bytes_wA (sh2_bt _)),by rw[wA_size];decide,by decide⟩,by decide⟩ (A1 ⟨rfl,rfl,bytes_wA (app_bt maskL_bt (bL_bt (by rw[hS];exact bytes_wA (sh2_bt _)))),by rw[wA_size];decide,by decide,by decide⟩ (A1 (wA_one _ _ _) A0))) ⟨⟨(sum2_sh (bytes_wA (app_bt maskL_bt (bL_bt (by rw[hS];exact bytes_wA (sh2_bt _))))) (by decide)).trans (by rw[bL_wA (by simp only[List.length_append,maskL_len,bL_len]),bL_wA (by rw[hS];exact sh2_len _),hS];rfl)⟩,rfl⟩
theorem hmnu':hmnA_R [] (hmnA k_1) .ret (fun z_=>∃(k_2:hmnC_c k_1 (sum2 (wA .u8 64 (maskL (bL B 0 64) 54 ++ ([]:List Int))) 0 64)) (k_3:hmnD_c k_2 (sum2 (wA .u8 96 (maskL (bL B 0 64) 92 ++ bL (wA .u8 32 (sum2 (wA .u8 64 (maskL (bL B 0 64) 54 ++ ([]:List Int))) 0 64)) 0 32)) 0 96)),z_=hmnD k_3):=by
  refine rn_seq (w:= []) (by kernel_rfl) hmn0 ?_
  rintro _ rfl
  refine rn_seq (w:= [1]) (by kernel_rfl) hmn1 ?_
  rintro _ ⟨k_2,rfl⟩
  exact(hmn2).mono fun _ ⟨k_3,e_⟩=>⟨k_2,k_3,e_⟩
abbrev hmnA_s (g0 g1:Tq) (B:Array Value) (j:Nat→Value):List Value:=([.agg B,.slice none 0 0] ++ (JU 12))
abbrev hmnA_m (g0 g1:Tq) (B:Array Value):List Mb:= [((wA .u32 64 kL2),g0),((wA .u64 80 kL5),g1)]
abbrev hmnD_s (g0 g1:Tq) (B:Array Value) (S X:List Int) (j:Nat→Value):List Value:=(J j 0 4 ++ ([.pointer (some ⟨3,0,none⟩)] ++ (J j 5 9)))
abbrev hmnD_m (g0 g1:Tq) (B:Array Value) (S X:List Int):List Mb:= [((wA .u32 64 kL2),g0),((wA .u64 80 kL5),g1),(B,(29,(0,0))),((wA .u8 32 X),(25,(0,0))),((wA .u8 64 (maskL (bL B 0 64) 54 ++ ([]:List Int))),(5,(0,0))),((wA .u8 32 S),(25,(0,0))),((wA .u8 96 (maskL (bL B 0 64) 92 ++ bL (wA .u8 32 S) 0 32)),(5,(0,0)))]
theorem hmnu (g0 g1:Tq) (B:Array Value) (j:Nat→Value) (hB:bytesAt B 0 64) (hs:B.size=64) (h1:B.all (fun v=>v.oneCell')=true)  :Runs Tryd.prog (cAt [] (bdy Tryd.f33)) ⟨hmnA_s g0 g1 B j,hmnA_m g0 g1 B,c0,ch0⟩ (fun e s=>e= .ret∧∃j c ch,((sum2 (wA .u8 64 (maskL (bL B 0 64) 54 ++ ([]:List Int))) 0 64)=sh2 (maskL (bL B 0 64) 54 ++ ([]:List Int)))∧((sum2 (wA .u8 96 (maskL (bL B 0 64) 92 ++ bL (wA .u8 32 (sum2 (wA .u8 64 (maskL (bL B 0 64) 54 ++ ([]:List Int))) 0 64)) 0 32)) 0 96)=hm2 B ([]:List Int))∧s=⟨hmnD_s g0 g1 B (sum2 (wA .u8 64 (maskL (bL B 0 64) 54 ++ ([]:List Int))) 0 64) (sum2 (wA .u8 96 (maskL (bL B 0 64) 92 ++ bL (wA .u8 32 (sum2 (wA .u8 64 (maskL (bL B 0 64) 54 ++ ([]:List Int))) 0 64)) 0 32)) 0 96) j,hmnD_m g0 g1 B (sum2 (wA .u8 64 (maskL (bL B 0 64) 54 ++ ([]:List Int))) 0 64) (sum2 (wA .u8 96 (maskL (bL B 0 64) 92 ++ bL (wA .u8 32 (sum2 (wA .u8 64 (maskL (bL B 0 64) 54 ++ ([]:List Int))) 0 64)) 0 32)) 0 96),c,ch⟩) 2000002:=by
  refine(Rn.old (hmnu' (k_1:=(⟨hB,hs,h1⟩:hmnA_c g0 g1 B))) j (by kernel_rfl)).mono ?_
  rintro e s ⟨rfl,_,⟨k_2,k_3,rfl⟩,j,c,ch,rfl⟩
  have⟨x_hS⟩:=k_2
  have⟨x_hX⟩:=k_3
  exact⟨rfl,j,c,ch,x_hS,x_hX,by kernel_rfl⟩
def hmsA_h (i:Nat):Hn:=if i=2 then⟨4,[],[],[],[]⟩ else⟨0,[],[],[],[]⟩
abbrev hmsA_R (w:List Nat) (S:FS) (e:Exit) (K:FS→Prop):Prop:=Rn Tryd.prog (cAt w (bdy Tryd.f33)) S e K 2000003
structure hmsA_c (g0 g1:Tq) (B:Array Value) (t:Tq) (a:Array Value) (o l cp:Nat):Prop where
  hB:bytesAt B 0 64
  hs:B.size=64
  h1:B.all (fun v=>v.oneCell')=true
  hb:bytesAt a o l
  hz:o+l≤a.size
  hcp:l≤cp
  hl:l≤100000000
variable {t:Tq} {a:Array Value} {o l cp:Nat} {k_4:hmsA_c g0 g1 B t a o l cp}
abbrev hmsA (_:hmsA_c g0 g1 B t a o l cp):FS:=⟨true,14,[(0,.agg B),(1,.slice (some ⟨2,o,none⟩) l cp)],[((wA .u32 64 kL2),g0),((wA .u64 80 kL5),g1),(a,t)]⟩
abbrev hmsB (_:hmsA_c g0 g1 B t a o l cp):FS:=⟨false,14,[(1,.slice (some ⟨2,o,none⟩) l cp),(2,.pointer (some ⟨3,0,none⟩)),(4,.pointer (some ⟨4,0,none⟩))],[((wA .u32 64 kL2),g0),((wA .u64 80 kL5),g1),(a,t),(B,(29,(0,0))),((wA .u8 32 []),(25,(0,0)))]⟩
theorem hms0:hmsA_R [0] (hmsA k_4) .normal (fun z_=>z_=hmsB k_4):=rn_ev (yty.enm tabS8 [mMask] 2000003) hmsA_h mixed _ none [] [] 0 (fun j M=>by kernel_rfl) A0 rfl
structure hmsC_c (_:hmsA_c g0 g1 B t a o l cp) (S:List Int):Prop where
  hS:S=sh2 (maskL (bL B 0 64) 54 ++ (bL a o l))
variable {k_5:hmsC_c k_4 S}
abbrev hmsC (_:hmsC_c k_4 S):FS:=⟨false,14,[(2,.pointer (some ⟨3,0,none⟩)),(4,.pointer (some ⟨4,0,none⟩)),(5,.pointer (some ⟨6,0,none⟩))],[((wA .u32 64 kL2),g0),((wA .u64 80 kL5),g1),(a,t),(B,(29,(0,0))),((wA .u8 32 []),(25,(0,0))),((wA .u8 (64+l) (maskL (bL B 0 64) 54 ++ (bL a o l))),(5,(0,0))),((wA .u8 32 S),(25,(0,0)))]⟩
theorem hms1:hmsA_R [1,0] (hmsB k_4) .normal (fun z_=>∃(k_5:hmsC_c k_4 (sum2 (wA .u8 (64+l) (maskL (bL B 0 64) 54 ++ (bL a o l))) 0 (64+l))),z_=hmsC k_5):=by
  have⟨hB,hs,h1,hb,hz,hcp,hl⟩:=id k_4
  exact rn_ev (yty.enm tabS8 [mMask] 2000003) hmsA_h mixed _ none [] [(4,(bytesAt B 0 64∧64≤1000000000∧BytesOk [((wA .u32 64 kL2),g0),((wA .u64 80 kL5),g1),(a,t),(B,(29,(0,0))),((wA .u8 32 []),(25,(0,0)))] (some ⟨2,o,none⟩) l cp∧l≤1000000000)),(0,((wA .u32 64 kL2)=wA .u32 64 kL2∧(wA .u64 80 kL5)=wA .u64 80 kL5∧bytesAt (wA .u8 (64+l) (maskL (bL B 0 64) 54 ++ (bL a o l))) 0 (64+l)∧0+(64+l)≤(wA .u8 (64+l) (maskL (bL B 0 64) 54 ++ (bL a o l))).size∧(64+l)≤(64+l)∧(64+l)<1152921504606846976)),(0,((wA .u8 32 (sum2 (wA .u8 (64+l) (maskL (bL B 0 64) 54 ++ (bL a o l))) 0 (64+l))).all (fun v=>v.oneCell')=true))] 0 (fun j M=>by kernel_rfl) (A1 ⟨hB,by decide,(.inr ⟨2,o,a,t,rfl,rfl,hb,hz,hcp⟩),by omega⟩ (A1 ⟨rfl,rfl,bytes_wA (app_bt maskL_bt (bL_bt hb)),by rw[wA_size];omega,by omega,by omega⟩ (A1 (wA_one _ _ _) A0))) ⟨⟨(sum2_sh (bytes_wA (app_bt maskL_bt (bL_bt hb))) (by omega)).trans (congrArg sh2 (bL_wA (by simp only[List.length_append,maskL_len,bL_len,List.length_nil])))⟩,rfl⟩
structure hmsD_c (_:hmsC_c k_4 S) (X:List Int):Prop where
  hX:X=hm2 B (bL a o l)
variable {k_6:hmsD_c k_5 X}
abbrev hmsD (_:hmsD_c k_5 X):FS:=⟨false,14,[(4,.pointer (some ⟨4,0,none⟩))],[((wA .u32 64 kL2),g0),((wA .u64 80 kL5),g1),(a,t),(B,(29,(0,0))),((wA .u8 32 X),(25,(0,0))),((wA .u8 (64+l) (maskL (bL B 0 64) 54 ++ (bL a o l))),(5,(0,0))),((wA .u8 32 S),(25,(0,0))),((wA .u8 96 (maskL (bL B 0 64) 92 ++ bL (wA .u8 32 S) 0 32)),(5,(0,0)))]⟩
def hms2_h (i:Nat):Hn:=if i=2 then⟨0,[(0,true),(1,true),(2,false),(3,false),(4,false)],[],[0,1,2,3,5,6],[]⟩ else hmsA_h i
theorem hms2:hmsA_R [1,1] (hmsC k_5) .ret (fun z_=>∃(k_6:hmsD_c k_5 (sum2 (wA .u8 96 (maskL (bL B 0 64) 92 ++ bL (wA .u8 32 S) 0 32)) 0 96)),z_=hmsD k_6):=by
  have⟨hB,hs,h1,hb,hz,hcp,hl⟩:=id k_4
  have⟨hS⟩:=id k_5
  exact rn_ev (yty.enm tabS8 [mMask] 2000003) hms2_h mixed _ none [] [(4,(bytesAt B 0 64∧64≤1000000000∧BytesOk [((wA .u32 64 kL2),g0),((wA .u64 80 kL5),g1),(a,t),(B,(29,(0,0))),((wA .u8 32 []),(25,(0,0))),((wA .u8 (64+l) (maskL (bL B 0 64) 54 ++ (bL a o l))),(5,(0,0))),((wA .u8 32 S),(25,(0,0)))] (some ⟨6,0,none⟩) 32 32∧32≤1000000000)),(0,((wA .u32 64 kL2)=wA .u32 64 kL2∧(wA .u64 80 kL5)=wA .u64 80 kL5∧bytesAt (wA .u8 96 (maskL (bL B 0 64) 92 ++ (bL (wA .u8 32 S) 0 32))) 0 96∧0+96≤(wA .u8 96 (maskL (bL B 0 64) 92 ++ (bL (wA .u8 32 S) 0 32))).size∧96≤96∧96<1152921504606846976)),(0,((wA .u8 32 (sum2 (wA .u8 96 (maskL (bL B 0 64) 92 ++ (bL (wA .u8 32 S) 0 32))) 0 96)).all (fun v=>v.oneCell')=true))] 0 (fun j M=>by kernel_rfl) (A1 ⟨hB,by decide,.inr ⟨6,0,_,_,rfl,rfl,(by rw[hS];exact bytes_wA (sh2_bt _)),by rw[wA_size];decide,by decide⟩,by decide⟩ (A1 ⟨rfl,rfl,bytes_wA (app_bt maskL_bt (bL_bt (by rw[hS];exact bytes_wA (sh2_bt _)))),by rw[wA_size];decide,by decide,by decide⟩ (A1 (wA_one _ _ _) A0))) ⟨⟨(sum2_sh (bytes_wA (app_bt maskL_bt (bL_bt (by rw[hS];exact bytes_wA (sh2_bt _))))) (by decide)).trans (by rw[bL_wA (by simp only[List.length_append,maskL_len,bL_len]),bL_wA (by rw[hS];exact sh2_len _),hS];rfl)⟩,rfl⟩
theorem hmsu':hmsA_R [] (hmsA k_4) .ret (fun z_=>∃(k_5:hmsC_c k_4 (sum2 (wA .u8 (64+l) (maskL (bL B 0 64) 54 ++ (bL a o l))) 0 (64+l))) (k_6:hmsD_c k_5 (sum2 (wA .u8 96 (maskL (bL B 0 64) 92 ++ bL (wA .u8 32 (sum2 (wA .u8 (64+l) (maskL (bL B 0 64) 54 ++ (bL a o l))) 0 (64+l))) 0 32)) 0 96)),z_=hmsD k_6):=by
  refine rn_seq (w:= []) (by kernel_rfl) hms0 ?_
  rintro _ rfl
  refine rn_seq (w:= [1]) (by kernel_rfl) hms1 ?_
  rintro _ ⟨k_5,rfl⟩
  exact(hms2).mono fun _ ⟨k_6,e_⟩=>⟨k_5,k_6,e_⟩
abbrev hmsA_s (g0 g1:Tq) (B:Array Value) (t:Tq) (a:Array Value) (o l cp:Nat) (j:Nat→Value):List Value:=([.agg B,.slice (some ⟨2,o,none⟩) l cp] ++ (JU 12))
abbrev hmsA_m (g0 g1:Tq) (B:Array Value) (t:Tq) (a:Array Value) (o l cp:Nat):List Mb:= [((wA .u32 64 kL2),g0),((wA .u64 80 kL5),g1),(a,t)]
abbrev hmsD_s (g0 g1:Tq) (B:Array Value) (t:Tq) (a:Array Value) (o l cp:Nat) (S X:List Int) (j:Nat→Value):List Value:=(J j 0 4 ++ ([.pointer (some ⟨4,0,none⟩)] ++ (J j 5 9)))
abbrev hmsD_m (g0 g1:Tq) (B:Array Value) (t:Tq) (a:Array Value) (o l cp:Nat) (S X:List Int):List Mb:= [((wA .u32 64 kL2),g0),((wA .u64 80 kL5),g1),(a,t),(B,(29,(0,0))),((wA .u8 32 X),(25,(0,0))),((wA .u8 (64+l) (maskL (bL B 0 64) 54 ++ (bL a o l))),(5,(0,0))),((wA .u8 32 S),(25,(0,0))),((wA .u8 96 (maskL (bL B 0 64) 92 ++ bL (wA .u8 32 S) 0 32)),(5,(0,0)))]
theorem hmsu (g0 g1:Tq) (B:Array Value) (t:Tq) (a:Array Value) (o l cp:Nat) (j:Nat→Value) (hB:bytesAt B 0 64) (hs:B.size=64) (h1:B.all (fun v=>v.oneCell')=true) (hb:bytesAt a o l) (hz:o+l≤a.size) (hcp:l≤cp) (hl:l≤100000000)  :Runs Tryd.prog (cAt [] (bdy Tryd.f33)) ⟨hmsA_s g0 g1 B t a o l cp j,hmsA_m g0 g1 B t a o l cp,c0,ch0⟩ (fun e s=>e= .ret∧∃j c ch,((sum2 (wA .u8 (64+l) (maskL (bL B 0 64) 54 ++ (bL a o l))) 0 (64+l))=sh2 (maskL (bL B 0 64) 54 ++ (bL a o l)))∧((sum2 (wA .u8 96 (maskL (bL B 0 64) 92 ++ bL (wA .u8 32 (sum2 (wA .u8 (64+l) (maskL (bL B 0 64) 54 ++ (bL a o l))) 0 (64+l))) 0 32)) 0 96)=hm2 B (bL a o l))∧s=⟨hmsD_s g0 g1 B t a o l cp (sum2 (wA .u8 (64+l) (maskL (bL B 0 64) 54 ++ (bL a o l))) 0 (64+l)) (sum2 (wA .u8 96 (maskL (bL B 0 64) 92 ++ bL (wA .u8 32 (sum2 (wA .u8 (64+l) (maskL (bL B 0 64) 54 ++ (bL a o l))) 0 (64+l))) 0 32)) 0 96) j,hmsD_m g0 g1 B t a o l cp (sum2 (wA .u8 (64+l) (maskL (bL B 0 64) 54 ++ (bL a o l))) 0 (64+l)) (sum2 (wA .u8 96 (maskL (bL B 0 64) 92 ++ bL (wA .u8 32 (sum2 (wA .u8 (64+l) (maskL (bL B 0 64) 54 ++ (bL a o l))) 0 (64+l))) 0 32)) 0 96),c,ch⟩) 2000003:=by
  refine(Rn.old (hmsu' (k_4:=(⟨hB,hs,h1,hb,hz,hcp,hl⟩:hmsA_c g0 g1 B t a o l cp))) j (by kernel_rfl)).mono ?_
  rintro e s ⟨rfl,_,⟨k_5,k_6,rfl⟩,j,c,ch,rfl⟩
  have⟨x_hS⟩:=k_5
  have⟨x_hX⟩:=k_6
  exact⟨rfl,j,c,ch,x_hS,x_hX,by kernel_rfl⟩
end Go.Proofs.YtcfnjcacdmkgbaaDoor

set_option linter.unusedSimpArgs false
set_option linter.unusedVariables false
/-! mac: entries over what is handed in. -/
namespace Go.Proofs.YtcfnjcacdmkgbaaDoor
open Go.RowKit Go.Ev
variable {c0:Prop} {ch0:List (Option Value)}
theorem BytesOk.move {mem:List Mb} {bp:Option Addr} {l cp:Nat} {z:Mb} (h:BytesOk mem bp l cp) (h0:mem[0]? =some z):∃(y:Mb) (j:Nat) (q:Nat→Option Addr),mem[j]? =some y∧(∀(M:List Mb) (k:Nat),M[k]? =some y→BytesOk M (q k) l cp∧bytesOf M (q k) l=bytesOf mem bp l)∧∀(β β':Nat→Nat) (k:Nat),β' k=β j→rn β' (.slice (q k) l cp)=rn β (.slice bp l cp):=by
  rcases h with⟨rfl,rfl,rfl⟩|⟨i,o,src,st,rfl,hm,hb,hz,hc⟩
  · exact⟨z,0,fun _=>none,h0,fun M k _=>⟨.inl ⟨rfl,rfl,rfl⟩,rfl⟩,fun β β' k _=>rfl⟩
  · refine ⟨(src, st), i, fun k => some ⟨k, o, none⟩, hm, fun M k hk => ⟨.inr ⟨k, o, src, st, rfl, hk, hb, hz, hc⟩, ?_⟩, fun β β' k hk => ?_⟩
    · simp only[bytesOf,hm,hk]
    · simp only[rn,hk]
theorem BytesOk.app {mem x:List Mb} {bp:Option Addr} {l cp:Nat} (h:BytesOk mem bp l cp):BytesOk (mem ++ x) bp l cp∧bytesOf (mem ++ x) bp l=bytesOf mem bp l:=by
  rcases h with⟨rfl,rfl,rfl⟩|⟨i,o,src,st,rfl,hm,hb,hz,hc⟩
  · exact⟨.inl ⟨rfl,rfl,rfl⟩,rfl⟩
  · have hm' : (mem ++ x)[i]? = some (src, st) := by rw [List.getElem?_append_left (List.getElem?_eq_some_iff.1 hm).1]; exact hm
    exact⟨.inr ⟨i,o,src,st,rfl,hm',hb,hz,hc⟩,by simp only[bytesOf,hm,hm']⟩
theorem BytesOk.okp {mem:List Mb} {bp:Option Addr} {l cp:Nat} (h:BytesOk mem bp l cp):okp mem.length (.slice bp l cp)=true:=by
  rcases h with⟨rfl,rfl,rfl⟩|⟨i,o,src,st,rfl,hm,_⟩
  · rfl
  · have := (List.getElem?_eq_some_iff.1 hm).1
    simp[Go.Ev.okp,this]
theorem has3m {w:World} {β:Nat→Nat} {mem:List Mb} {x0 x1 y:Mb} {j:Nat} (hw:Has w β mem) (h0:mem[0]? =some x0) (h1:mem[1]? =some x1) (hy:mem[j]? =some y):Has w (fun i=>if i=2 then β j else β i) [x0,x1,y]:=fun i x hx=>by
  match i,hx with
  |0,hx=>simp only[List.getElem?_cons_zero,Option.some.injEq] at hx;subst hx;exact hw 0 _ h0
  |1,hx=>simp only[List.getElem?_cons_succ,List.getElem?_cons_zero,Option.some.injEq] at hx;subst hx;exact hw 1 _ h1
  |2,hx=>simp only[List.getElem?_cons_succ,List.getElem?_cons_zero,Option.some.injEq] at hx;subst hx;exact hw j _ hy
  |i+3,hx=>simp at hx
theorem has4m {w:World} {β:Nat→Nat} {mem:List Mb} {x0 x1 y z:Mb} {j k:Nat} (hw:Has w β mem) (h0:mem[0]? =some x0) (h1:mem[1]? =some x1) (hy:mem[j]? =some y) (hz:mem[k]? =some z):Has w (fun i=>if i=2 then β j else if i=3 then β k else β i) [x0,x1,y,z]:=fun i x hx=>by
  match i,hx with
  |0,hx=>simp only[List.getElem?_cons_zero,Option.some.injEq] at hx;subst hx;exact hw 0 _ h0
  |1,hx=>simp only[List.getElem?_cons_succ,List.getElem?_cons_zero,Option.some.injEq] at hx;subst hx;exact hw 1 _ h1
  |2,hx=>simp only[List.getElem?_cons_succ,List.getElem?_cons_zero,Option.some.injEq] at hx;subst hx;exact hw j _ hy
  |3,hx=>simp only[List.getElem?_cons_succ,List.getElem?_cons_zero,Option.some.injEq] at hx;subst hx;exact hw k _ hz
  |i+4,hx=>simp at hx
theorem gl2 {f β:Nat→Nat} (b0:β 0=0) (b1:β 1=1) (h:∀ i,i<2→f i=β i):∀ i,i<2→f i=i:=fun i hi=>by
  rw[h i hi]
  match i,hi with
  |0,_=>exact b0
  |1,_=>exact b1
  |i+2,hi=>omega
theorem lift1 {P:Program} {f:FuncId} {pre:List Value} (hp:pre.all np=true) {x0 x1:Mb} {v:Value} {mem:List Mb} {bp:Option Addr} {l cp:Nat} (hB:BytesOk mem bp l cp) (h0:mem[0]? =some x0) (h1:mem[1]? =some x1) (hS:∀ y q,BytesOk [x0,x1,y] q l cp→bytesOf [x0,x1,y] q l=bytesOf mem bp l→Reads P f [x0,x1,y] (pre ++ [Value.slice q l cp]) v 2) {w:World} {β:Nat→Nat} (hw:Has w β mem) (b0:β 0=0) (b1:β 1=1):Calls P f ((pre ++ [Value.slice bp l cp]).map (rn β)).toArray w (fun e w'=>e= .returned v∧Below w.heap.size w w'):=by
  obtain⟨y,j,q,hy,hM,hr⟩:=hB.move h0
  obtain⟨h2,h3⟩:=hM [x0,x1,y] 2 rfl
  have h:=hS y (q 2) h2 h3 w (fun i=>if i=2 then β j else β i) (has3m hw h0 h1 hy) (gl2 b0 b1 (fun i hi=>by show(if i=2 then β j else β i)=β i;rw[if_neg (by omega)]))
  have e : (pre ++ [Value.slice (q 2) l cp]).map (rn fun i => if i = 2 then β j else β i) = (pre ++ [Value.slice bp l cp]).map (rn β) := by
    rw[List.map_append,List.map_append]
    congr 1
    · exact List.map_congr_left fun u hu=>by rw[rn_np (List.all_eq_true.1 hp u hu),rn_np (List.all_eq_true.1 hp u hu)]
    · simp only [List.map_cons, List.map_nil]
      rw[hr β (fun i=>if i=2 then β j else β i) 2 (by simp)]
  rw[e] at h
  exact h
theorem lift2 {P:Program} {f:FuncId} {x0 x1:Mb} {v:Value} {post:List Value} (hp:post.all np=true) {mem:List Mb} {bp bq:Option Addr} {l cp m cq:Nat} (hB:BytesOk mem bp l cp) (hC:BytesOk mem bq m cq) (h0:mem[0]? =some x0) (h1:mem[1]? =some x1) (hS:∀ y z q r,BytesOk [x0,x1,y,z] q l cp→bytesOf [x0,x1,y,z] q l=bytesOf mem bp l→BytesOk [x0,x1,y,z] r m cq→bytesOf [x0,x1,y,z] r m=bytesOf mem bq m→Reads P f [x0,x1,y,z] (.slice q l cp :: .slice r m cq :: post) v 2) {w:World} {β:Nat→Nat} (hw:Has w β mem) (b0:β 0=0) (b1:β 1=1):Calls P f ((Value.slice bp l cp :: .slice bq m cq :: post).map (rn β)).toArray w (fun e w'=>e= .returned v∧Below w.heap.size w w'):=by
  obtain⟨y,j,q,hy,hM,hr⟩:=hB.move h0
  obtain⟨z,k,r,hz,hN,hs⟩:=hC.move h0
  obtain⟨h2,h3⟩:=hM [x0,x1,y,z] 2 rfl
  obtain⟨h4,h5⟩:=hN [x0,x1,y,z] 3 rfl
  have h:=hS y z (q 2) (r 3) h2 h3 h4 h5 w (fun i=>if i=2 then β j else if i=3 then β k else β i) (has4m hw h0 h1 hy hz) (gl2 b0 b1 (fun i hi=>by show(if i=2 then β j else if i=3 then β k else β i)=β i;rw[if_neg (by omega),if_neg (by omega)]))
  have e:(Value.slice (q 2) l cp :: .slice (r 3) m cq :: post).map (rn fun i=>if i=2 then β j else if i=3 then β k else β i)=(Value.slice bp l cp :: .slice bq m cq :: post).map (rn β):=by
    simp only[List.map_cons]
    rw[hr β (fun i=>if i=2 then β j else if i=3 then β k else β i) 2 (by simp),hs β (fun i=>if i=2 then β j else if i=3 then β k else β i) 3 (by simp)]
    congr 2
    exact List.map_congr_left fun u hu=>by rw[rn_np (List.all_eq_true.1 hp u hu),rn_np (List.all_eq_true.1 hp u hu)]
  rw[e] at h
  exact h
theorem reads_more {P:Program} {f:FuncId} {x0 x1 y:Mb} {args:List Value} {v:Value} (h:Reads P f [x0,x1] args v 2):Reads P f [x0,x1,y] args v 2:=fun w β hw hg=>
  h w β (fun i x hx => hw i x (by
    match i,hx with
    |0,hx=>exact hx
    |1,hx=>exact hx
    |i+2,hx=>simp at hx)) hg
theorem reads_at {P:Program} {f:FuncId} {x0 x1 cs:Array Value} {g0 g1 t:Tq} {y:Mb} {o l c i:Nat} {v:Value} (h:Reads P f [(x0,g0),(x1,g1),(cs,t)] [.slice (some ⟨2,o,none⟩) l c] v 2) (hm: [(x0,g0),(x1,g1),y][i]? =some (cs,t)):Reads P f [(x0,g0),(x1,g1),y] [.slice (some ⟨i,o,none⟩) l c] v 2:=fun w β hw hg=>
  readsT h rfl rfl hm hw (hg 0 (by decide)) (hg 1 (by decide))
theorem reads_atA {P:Program} {f:FuncId} {x0 x1 cs:Array Value} {g0 g1 t:Tq} {y:Mb} {o l c i:Nat} {q0 v:Value} (hq:np q0=true) (h:Reads P f [(x0,g0),(x1,g1),(cs,t)] [q0,.slice (some ⟨2,o,none⟩) l c] v 2) (hm: [(x0,g0),(x1,g1),y][i]? =some (cs,t)):Reads P f [(x0,g0),(x1,g1),y] [q0,.slice (some ⟨i,o,none⟩) l c] v 2:=fun w β hw hg=>by
  have:=h w (fun q=>if q=2 then β i else β q) (has3m (mem:= [(x0,g0),(x1,g1),y]) hw rfl rfl hm) (gl2 (hg 0 (by decide)) (hg 1 (by decide)) (fun q hq=>by show(if q=2 then β i else β q)=β q;rw[if_neg (by omega)]))
  have e1:∀ β:Nat→Nat,rn β q0=q0:=fun β=>rn_np hq
  simp only[List.map_cons,List.map_nil,e1] at this ⊢
  exact this
def pBk2 : Entry Tryd.prog where
  f:=34
  ng:=2
  g := fun mem xs => match xs with
    | [.slice bp l cp] => (match mem[0]?, mem[1]? with
      |some (x0,_),some (x1,_)=>some (.agg (wA .u8 64 (key2 (bytesOf mem bp l))),(x0=wA .u32 64 kL2∧x1=wA .u64 80 kL5∧BytesOk mem bp l cp∧l≤100000000))
      |_,_=>none)
    |_=>none
  ok := fun mem xs v c e hc w β hw hg => by
    split at e
    · rename_i bp l cp
      split at e
      · rename_i x0 g0 x1 g1 h0 h1
        simp only[Option.some.injEq,Prod.mk.injEq] at e
        obtain⟨rfl,rfl⟩:=e
        obtain⟨rfl,rfl,hB,hl⟩:=hc
        refine lift1 (pre:= []) rfl hB h0 h1 (fun y q hq he=> ?_) hw (hg 0 (by decide)) (hg 1 (by decide))
        rw[← he]
        rcases hq with⟨rfl,rfl,rfl⟩|⟨i,o,src,st,rfl,hm,hb,hz,hc⟩
        · exact reads_more (BlockN2_c g0 g1)
        · have h := reads_at (Block2_c g0 g1 st src o l cp hb hz hc (by omega)) hm
          simp only[bytesOf,hm]
          exact h
      · cases e
    · cases e
  call:=call_of Tryd.func34 (by kernel_rfl) (by kernel_rfl)
def pBk5 : Entry Tryd.prog where
  f:=35
  ng:=2
  g := fun mem xs => match xs with
    | [.slice bp l cp] => (match mem[0]?, mem[1]? with
      |some (x0,_),some (x1,_)=>some (.agg (wA .u8 128 (key5 (bytesOf mem bp l))),(x0=wA .u32 64 kL2∧x1=wA .u64 80 kL5∧BytesOk mem bp l cp∧l≤100000000))
      |_,_=>none)
    |_=>none
  ok := fun mem xs v c e hc w β hw hg => by
    split at e
    · rename_i bp l cp
      split at e
      · rename_i x0 g0 x1 g1 h0 h1
        simp only[Option.some.injEq,Prod.mk.injEq] at e
        obtain⟨rfl,rfl⟩:=e
        obtain⟨rfl,rfl,hB,hl⟩:=hc
        refine lift1 (pre:= []) rfl hB h0 h1 (fun y q hq he=> ?_) hw (hg 0 (by decide)) (hg 1 (by decide))
        rw[← he]
        rcases hq with⟨rfl,rfl,rfl⟩|⟨i,o,src,st,rfl,hm,hb,hz,hc⟩
        · exact reads_more (BlockN5_c g0 g1)
        · have h := reads_at (Block5_c g0 g1 st src o l cp hb hz hc (by omega)) hm
          simp only[bytesOf,hm]
          exact h
      · cases e
    · cases e
  call:=call_of Tryd.func35 (by kernel_rfl) (by kernel_rfl)
theorem Hm_some (g0 g1 t:Tq) (B:Array Value) (a:Array Value) (o l cp:Nat) (hB:bytesAt B 0 64) (hs:B.size=64) (h1:B.all (fun v=>v.oneCell')=true) (hb:bytesAt a o l) (hz:o+l≤a.size) (hcp:l≤cp) (hl:l≤100000000):Reads Tryd.prog 33 [(wA .u32 64 kL2,g0),(wA .u64 80 kL5,g1),(a,t)] [.agg B,.slice (some ⟨2,o,none⟩) l cp] (.agg (wA .u8 32 (hm2 B (bL a o l)))) 2:=by
  refine reads_runs (fk:=2000003) (yty.enm tabS8 [mMask] 2000003) Tryd.func33 (c:=bdy Tryd.f33) (by kernel_rfl) ⟨len3 _ _ _,by decide⟩ (args:= [.agg B,.slice (some ⟨2,o,none⟩) l cp]) (by kernel_rfl) (K:=fun e s=>e= .ret∧resS (yty.enm tabS8 [mMask] 2000003) s Tryd.f33.results.toList=some [.agg (wA .u8 32 (hm2 B (bL a o l)))]) ?_ (fun e s h=>⟨h.1,_,h.2,rfl⟩)
  refine(hmsu g0 g1 B t a o l cp (fun _=>undef) hB hs h1 hb hz hcp hl).mono ?_
  rintro e s ⟨rfl,hh⟩
  obtain⟨j,c,ch,hS,hX,rfl⟩:=hh
  rw[← hX]
  exact⟨rfl,by kernel_rfl⟩
theorem Hm_nil (g0 g1:Tq) (B:Array Value) (hB:bytesAt B 0 64) (hs:B.size=64) (h1:B.all (fun v=>v.oneCell')=true):Reads Tryd.prog 33 [(wA .u32 64 kL2,g0),(wA .u64 80 kL5,g1)] [.agg B,.slice none 0 0] (.agg (wA .u8 32 (hm2 B []))) 2:=by
  refine reads_runs (fk:=2000002) (yty.enm tabS8 [mMask] 2000002) Tryd.func33 (c:=bdy Tryd.f33) (by kernel_rfl) ⟨len2 _ _,by decide⟩ (args:= [.agg B,.slice none 0 0]) (by kernel_rfl) (K:=fun e s=>e= .ret∧resS (yty.enm tabS8 [mMask] 2000002) s Tryd.f33.results.toList=some [.agg (wA .u8 32 (hm2 B []))]) ?_ (fun e s h=>⟨h.1,_,h.2,rfl⟩)
  refine(hmnu g0 g1 B (fun _=>undef) hB hs h1).mono ?_
  rintro e s ⟨rfl,hh⟩
  obtain⟨j,c,ch,hS,hX,rfl⟩:=hh
  rw[← hX]
  exact⟨rfl,by kernel_rfl⟩
def pHm2 : Entry Tryd.prog where
  f:=33
  ng:=2
  g := fun mem xs => match xs with
    | [.agg B, .slice bp l cp] => (match mem[0]?, mem[1]? with
      |some (x0,_),some (x1,_)=>some (.agg (wA .u8 32 (hm2 B (bytesOf mem bp l))),(x0=wA .u32 64 kL2∧x1=wA .u64 80 kL5∧BytesOk mem bp l cp∧l≤100000000∧bytesAt B 0 64∧B.size=64∧B.all (fun v=>v.oneCell')=true))
      |_,_=>none)
    |_=>none
  ok := fun mem xs v c e hc w β hw hg => by
    split at e
    · rename_i B bp l cp
      split at e
      · rename_i x0 g0 x1 g1 h0 h1
        simp only[Option.some.injEq,Prod.mk.injEq] at e
        obtain⟨rfl,rfl⟩:=e
        obtain⟨rfl,rfl,hB,hl,k1,k2,k3⟩:=hc
        refine lift1 (pre:= [.agg B]) rfl hB h0 h1 (fun y q hq he=> ?_) hw (hg 0 (by decide)) (hg 1 (by decide))
        rw[← he]
        rcases hq with⟨rfl,rfl,rfl⟩|⟨i,o,src,st,rfl,hm,hb,hz,hc⟩
        · exact reads_more (Hm_nil g0 g1 B k1 k2 k3)
        · have h := reads_atA (np_agg B) (Hm_some g0 g1 st B src o l cp k1 k2 k3 hb hz hc hl) hm
          simp only[bytesOf,hm]
          exact h
      · cases e
    · cases e
  call:=call_of Tryd.func33 (by kernel_rfl) (by kernel_rfl)
def tabM1:List (Entry Tryd.prog):=pHm2 :: pBk2 :: pBk5 :: tabS8
def hmac2 (K N:List Int):List Int:=hm2 (wA .u8 64 (key2 K)) N
end Go.Proofs.YtcfnjcacdmkgbaaDoor

set_option linter.unusedSimpArgs false
set_option linter.unusedVariables false
/-! mac: Hmac256, Hmac512. -/
namespace Go.Proofs.YtcfnjcacdmkgbaaDoor
open Go.RowKit Go.Ev
variable {c0:Prop} {ch0:List (Option Value)}
theorem len4 (x y z u:Mb): [x,y,z,u].length=2000004%big:=by
  rw[show(2000004:Nat)%big=4 from rfl];rfl
theorem key2_bt {N:List Int} (h:∀ x ∈ N,0≤x∧x<256):∀ x ∈ key2 N,0≤x∧x<256:=by
  unfold key2;split
  · exact h
  · exact sh2_bt _
theorem key5_bt {N:List Int} (h:∀ x ∈ N,0≤x∧x<256):∀ x ∈ key5 N,0≤x∧x<256:=by
  unfold key5;split
  · exact h
  · exact sh5_bt _
def hm5 (B:Array Value) (N:List Int):List Int:=sh5 (maskL (bL B 0 128) 92 ++ sh5 (maskL (bL B 0 128) 54 ++ N))
def hmac5 (K N:List Int):List Int:=hm5 (wA .u8 128 (key5 K)) N
def haA_h (i:Nat):Hn:=⟨0,[],[],[],[]⟩
abbrev haA_R (w:List Nat) (S:FS) (e:Exit) (K:FS→Prop):Prop:=Rn Tryd.prog (cAt w (bdy Tryd.f15)) S e K 2000004
structure haA_c (g0 g1 t1 t2:Tq) (a1 a2:Array Value) (b1 b2:Option Addr) (l1 c1 l2 c2:Nat) (N1 N2:List Int):Prop where
  hk:BytesOk [(wA .u32 64 kL2,g0),(wA .u64 80 kL5,g1),(a1,t1),(a2,t2)] b1 l1 c1
  hN1:bytesOf [(wA .u32 64 kL2,g0),(wA .u64 80 kL5,g1),(a1,t1),(a2,t2)] b1 l1=N1
  ht:BytesOk [(wA .u32 64 kL2,g0),(wA .u64 80 kL5,g1),(a1,t1),(a2,t2)] b2 l2 c2
  hN2:bytesOf [(wA .u32 64 kL2,g0),(wA .u64 80 kL5,g1),(a1,t1),(a2,t2)] b2 l2=N2
  hl:l1≤100000000∧l2≤100000000
variable {g0 g1 t1 t2:Tq} {a1 a2:Array Value} {b1 b2:Option Addr} {l1 c1 l2 c2:Nat} {N1 N2:List Int} {k_1:haA_c g0 g1 t1 t2 a1 a2 b1 b2 l1 c1 l2 c2 N1 N2}
abbrev haA (_:haA_c g0 g1 t1 t2 a1 a2 b1 b2 l1 c1 l2 c2 N1 N2):FS:=⟨true,9,[(0,.slice b1 l1 c1),(1,.slice b2 l2 c2)],[((wA .u32 64 kL2),g0),((wA .u64 80 kL5),g1),(a1,t1),(a2,t2)]⟩
abbrev haB (_:haA_c g0 g1 t1 t2 a1 a2 b1 b2 l1 c1 l2 c2 N1 N2):FS:=⟨false,9,[(0,.slice b1 l1 c1),(1,.slice b2 l2 c2),(4,.pointer (some ⟨4,0,none⟩))],[((wA .u32 64 kL2),g0),((wA .u64 80 kL5),g1),(a1,t1),(a2,t2),((wA .u8 32 []),(25,(0,0)))]⟩
theorem ha0:haA_R [0] (haA k_1) .normal (fun z_=>z_=haB k_1):=rn_ev (yty.enm tabM1 [mMask] 2000004) haA_h mixed _ none [] [] 0 (fun j M=>by kernel_rfl) A0 rfl
abbrev haC (_:haA_c g0 g1 t1 t2 a1 a2 b1 b2 l1 c1 l2 c2 N1 N2):FS:=⟨false,9,[(4,.pointer (some ⟨4,0,none⟩))],[((wA .u32 64 kL2),g0),((wA .u64 80 kL5),g1),(a1,t1),(a2,t2),((wA .u8 32 (hmac2 N1 N2)),(25,(0,0)))]⟩
theorem ha1:haA_R [1] (haB k_1) .ret (fun z_=>z_=haC k_1):=by
  have⟨hk,hN1,ht,hN2,hl⟩:=id k_1
  have e1:bytesOf [((wA .u32 64 kL2),g0),((wA .u64 80 kL5),g1),(a1,t1),(a2,t2),((wA .u8 32 []),(25,(0,0)))] b1 l1=N1:=(BytesOk.app (x:= [_]) hk).2.trans hN1
  have e2:bytesOf [((wA .u32 64 kL2),g0),((wA .u64 80 kL5),g1),(a1,t1),(a2,t2),((wA .u8 32 []),(25,(0,0)))] b2 l2=N2:=(BytesOk.app (x:= [_]) ht).2.trans hN2
  exact rn_ev (yty.enm tabM1 [mMask] 2000004) haA_h mixed (⟨false,9,[(4,.pointer (some ⟨4,0,none⟩))],[((wA .u32 64 kL2),g0),((wA .u64 80 kL5),g1),(a1,t1),(a2,t2),((wA .u8 32 (hm2 (wA .u8 64 (key2 (bytesOf [((wA .u32 64 kL2),g0),((wA .u64 80 kL5),g1),(a1,t1),(a2,t2),((wA .u8 32 []),(25,(0,0)))] b1 l1))) (bytesOf [((wA .u32 64 kL2),g0),((wA .u64 80 kL5),g1),(a1,t1),(a2,t2),((wA .u8 32 []),(25,(0,0)))] b2 l2))),(25,(0,0)))]⟩) none [] [(2,((wA .u32 64 kL2)=wA .u32 64 kL2∧(wA .u64 80 kL5)=wA .u64 80 kL5∧BytesOk [((wA .u32 64 kL2),g0),((wA .u64 80 kL5),g1),(a1,t1),(a2,t2),((wA .u8 32 []),(25,(0,0)))] b1 l1 c1∧l1≤100000000)),(2,((wA .u32 64 kL2)=wA .u32 64 kL2∧(wA .u64 80 kL5)=wA .u64 80 kL5∧BytesOk [((wA .u32 64 kL2),g0),((wA .u64 80 kL5),g1),(a1,t1),(a2,t2),((wA .u8 32 []),(25,(0,0)))] b2 l2 c2∧l2≤100000000∧bytesAt (wA .u8 64 (key2 (bytesOf [((wA .u32 64 kL2),g0),((wA .u64 80 kL5),g1),(a1,t1),(a2,t2),((wA .u8 32 []),(25,(0,0)))] b1 l1))) 0 64∧(wA .u8 64 (key2 (bytesOf [((wA .u32 64 kL2),g0),((wA .u64 80 kL5),g1),(a1,t1),(a2,t2),((wA .u8 32 []),(25,(0,0)))] b1 l1))).size=64∧(wA .u8 64 (key2 (bytesOf [((wA .u32 64 kL2),g0),((wA .u64 80 kL5),g1),(a1,t1),(a2,t2),((wA .u8 32 []),(25,(0,0)))] b1 l1))).all (fun v=>v.oneCell')=true)),(0,((wA .u8 32 (hm2 (wA .u8 64 (key2 (bytesOf [((wA .u32 64 kL2),g0),((wA .u64 80 kL5),g1),(a1,t1),(a2,t2),((wA .u8 32 []),(25,(0,0)))] b1 l1))) (bytesOf [((wA .u32 64 kL2),g0),((wA .u64 80 kL5),g1),(a1,t1),(a2,t2),((wA .u8 32 []),(25,(0,0)))] b2 l2))).all (fun v=>v.oneCell')=true))] 0 (fun j M=>by kernel_rfl) (A1 ⟨rfl,rfl,(BytesOk.app (x:= [_]) hk).1,hl.1⟩ (A1 ⟨rfl,rfl,(BytesOk.app (x:= [_]) ht).1,hl.2,bytes_wA (key2_bt (BytesOk.app (x:= [_]) hk).1.bt),wA_size _ _ _,wA_one _ _ _⟩ (A1 (wA_one _ _ _) A0))) (by
    delta haC
    rw[e1,e2]
    try kernel_rfl)
theorem hau':haA_R [] (haA k_1) .ret (fun z_=>z_=haC k_1):=by
  refine rn_seq (w:= []) (by kernel_rfl) ha0 ?_
  rintro _ rfl
  exact ha1
abbrev haA_s (g0 g1 t1 t2:Tq) (a1 a2:Array Value) (b1 b2:Option Addr) (l1 c1 l2 c2:Nat) (N1 N2:List Int) (j:Nat→Value):List Value:=([.slice b1 l1 c1,.slice b2 l2 c2] ++ (JU 7))
abbrev haA_m (g0 g1 t1 t2:Tq) (a1 a2:Array Value) (b1 b2:Option Addr) (l1 c1 l2 c2:Nat) (N1 N2:List Int):List Mb:= [((wA .u32 64 kL2),g0),((wA .u64 80 kL5),g1),(a1,t1),(a2,t2)]
abbrev haC_s (g0 g1 t1 t2:Tq) (a1 a2:Array Value) (b1 b2:Option Addr) (l1 c1 l2 c2:Nat) (N1 N2:List Int) (j:Nat→Value):List Value:=(J j 0 4 ++ ([.pointer (some ⟨4,0,none⟩)] ++ (J j 5 4)))
abbrev haC_m (g0 g1 t1 t2:Tq) (a1 a2:Array Value) (b1 b2:Option Addr) (l1 c1 l2 c2:Nat) (N1 N2:List Int):List Mb:= [((wA .u32 64 kL2),g0),((wA .u64 80 kL5),g1),(a1,t1),(a2,t2),((wA .u8 32 (hmac2 N1 N2)),(25,(0,0)))]
theorem hau (g0 g1 t1 t2:Tq) (a1 a2:Array Value) (b1 b2:Option Addr) (l1 c1 l2 c2:Nat) (N1 N2:List Int) (j:Nat→Value) (hk:BytesOk [(wA .u32 64 kL2,g0),(wA .u64 80 kL5,g1),(a1,t1),(a2,t2)] b1 l1 c1) (hN1:bytesOf [(wA .u32 64 kL2,g0),(wA .u64 80 kL5,g1),(a1,t1),(a2,t2)] b1 l1=N1) (ht:BytesOk [(wA .u32 64 kL2,g0),(wA .u64 80 kL5,g1),(a1,t1),(a2,t2)] b2 l2 c2) (hN2:bytesOf [(wA .u32 64 kL2,g0),(wA .u64 80 kL5,g1),(a1,t1),(a2,t2)] b2 l2=N2) (hl:l1≤100000000∧l2≤100000000)  :Runs Tryd.prog (cAt [] (bdy Tryd.f15)) ⟨haA_s g0 g1 t1 t2 a1 a2 b1 b2 l1 c1 l2 c2 N1 N2 j,haA_m g0 g1 t1 t2 a1 a2 b1 b2 l1 c1 l2 c2 N1 N2,c0,ch0⟩ (fun e s=>e= .ret∧∃j c ch,s=⟨haC_s g0 g1 t1 t2 a1 a2 b1 b2 l1 c1 l2 c2 N1 N2 j,haC_m g0 g1 t1 t2 a1 a2 b1 b2 l1 c1 l2 c2 N1 N2,c,ch⟩) 2000004:=by
  refine(Rn.old (hau' (k_1:=(⟨hk,hN1,ht,hN2,hl⟩:haA_c g0 g1 t1 t2 a1 a2 b1 b2 l1 c1 l2 c2 N1 N2))) j (by kernel_rfl)).mono ?_
  rintro e s ⟨rfl,_,rfl,j,c,ch,rfl⟩
  exact⟨rfl,j,c,ch,by kernel_rfl⟩
theorem Hmac2_c (g0 g1 t1 t2:Tq) (a1 a2:Array Value) (b1 b2:Option Addr) (l1 c1 l2 c2:Nat) (hk:BytesOk [(wA .u32 64 kL2,g0),(wA .u64 80 kL5,g1),(a1,t1),(a2,t2)] b1 l1 c1) (ht:BytesOk [(wA .u32 64 kL2,g0),(wA .u64 80 kL5,g1),(a1,t1),(a2,t2)] b2 l2 c2) (hl:l1≤100000000∧l2≤100000000):Reads Tryd.prog 15 [(wA .u32 64 kL2,g0),(wA .u64 80 kL5,g1),(a1,t1),(a2,t2)] [.slice b1 l1 c1,.slice b2 l2 c2] (.agg (wA .u8 32 (hmac2 (bytesOf [(wA .u32 64 kL2,g0),(wA .u64 80 kL5,g1),(a1,t1),(a2,t2)] b1 l1) (bytesOf [(wA .u32 64 kL2,g0),(wA .u64 80 kL5,g1),(a1,t1),(a2,t2)] b2 l2)))) 2:=by
  refine reads_runs (fk:=2000004) (yty.enm tabM1 [mMask] 2000004) Tryd.func15 (c:=bdy Tryd.f15) (by kernel_rfl) ⟨len4 _ _ _ _,by decide⟩ (args:= [.slice b1 l1 c1,.slice b2 l2 c2]) (by show(Go.Ev.okp 4 (.slice b1 l1 c1) && (Go.Ev.okp 4 (.slice b2 l2 c2) && true))=true;rw[show Go.Ev.okp 4 (.slice b1 l1 c1)=true from hk.okp,show Go.Ev.okp 4 (.slice b2 l2 c2)=true from ht.okp];rfl) (K:=fun e s=>e= .ret∧resS (yty.enm tabM1 [mMask] 2000004) s Tryd.f15.results.toList=some [.agg (wA .u8 32 (hmac2 (bytesOf [(wA .u32 64 kL2,g0),(wA .u64 80 kL5,g1),(a1,t1),(a2,t2)] b1 l1) (bytesOf [(wA .u32 64 kL2,g0),(wA .u64 80 kL5,g1),(a1,t1),(a2,t2)] b2 l2)))]) ?_ (fun e s h=>⟨h.1,_,h.2,rfl⟩)
  generalize h1:bytesOf [(wA .u32 64 kL2,g0),(wA .u64 80 kL5,g1),(a1,t1),(a2,t2)] b1 l1=N1
  generalize h2:bytesOf [(wA .u32 64 kL2,g0),(wA .u64 80 kL5,g1),(a1,t1),(a2,t2)] b2 l2=N2
  refine(hau g0 g1 t1 t2 a1 a2 b1 b2 l1 c1 l2 c2 N1 N2 (fun _=>undef) hk h1 ht h2 hl).mono ?_
  rintro e s ⟨rfl,hh⟩
  obtain⟨j,c,ch,rfl⟩:=hh
  exact⟨rfl,by kernel_rfl⟩
def hbA_h (i:Nat):Hn:=if i=3 then⟨4,[],[],[],[]⟩ else⟨0,[],[],[],[]⟩
abbrev hbA_R (w:List Nat) (S:FS) (e:Exit) (K:FS→Prop):Prop:=Rn Tryd.prog (cAt w (bdy Tryd.f16)) S e K 2000004
structure hbA_c (g0 g1 t1 t2:Tq) (a1 a2:Array Value) (b1 b2:Option Addr) (l1 c1 l2 c2:Nat) (N1 N2:List Int):Prop where
  hk:BytesOk [(wA .u32 64 kL2,g0),(wA .u64 80 kL5,g1),(a1,t1),(a2,t2)] b1 l1 c1
  hN1:bytesOf [(wA .u32 64 kL2,g0),(wA .u64 80 kL5,g1),(a1,t1),(a2,t2)] b1 l1=N1
  ht:BytesOk [(wA .u32 64 kL2,g0),(wA .u64 80 kL5,g1),(a1,t1),(a2,t2)] b2 l2 c2
  hN2:bytesOf [(wA .u32 64 kL2,g0),(wA .u64 80 kL5,g1),(a1,t1),(a2,t2)] b2 l2=N2
  hl:l1≤100000000∧l2≤100000000
variable {k_2:hbA_c g0 g1 t1 t2 a1 a2 b1 b2 l1 c1 l2 c2 N1 N2}
abbrev hbA (_:hbA_c g0 g1 t1 t2 a1 a2 b1 b2 l1 c1 l2 c2 N1 N2):FS:=⟨true,17,[(0,.slice b1 l1 c1),(1,.slice b2 l2 c2)],[((wA .u32 64 kL2),g0),((wA .u64 80 kL5),g1),(a1,t1),(a2,t2)]⟩
abbrev hbB (_:hbA_c g0 g1 t1 t2 a1 a2 b1 b2 l1 c1 l2 c2 N1 N2):FS:=⟨false,17,[(0,.slice b1 l1 c1),(1,.slice b2 l2 c2),(4,.pointer (some ⟨4,0,none⟩))],[((wA .u32 64 kL2),g0),((wA .u64 80 kL5),g1),(a1,t1),(a2,t2),((wA .u8 64 []),(29,(0,0)))]⟩
theorem hb0:hbA_R [0] (hbA k_2) .normal (fun z_=>z_=hbB k_2):=rn_ev (yty.enm tabM1 [mMask] 2000004) hbA_h mixed _ none [] [] 0 (fun j M=>by kernel_rfl) A0 rfl
abbrev hbC (_:hbA_c g0 g1 t1 t2 a1 a2 b1 b2 l1 c1 l2 c2 N1 N2):FS:=⟨false,17,[(1,.slice b2 l2 c2),(4,.pointer (some ⟨4,0,none⟩)),(5,.pointer (some ⟨5,0,none⟩))],[((wA .u32 64 kL2),g0),((wA .u64 80 kL5),g1),(a1,t1),(a2,t2),((wA .u8 64 []),(29,(0,0))),((wA .u8 128 (key5 N1)),(53,(0,0)))]⟩
theorem hb1:hbA_R [1,0] (hbB k_2) .normal (fun z_=>z_=hbC k_2):=by
  have⟨hk,hN1,ht,hN2,hl⟩:=id k_2
  have e1:bytesOf [((wA .u32 64 kL2),g0),((wA .u64 80 kL5),g1),(a1,t1),(a2,t2),((wA .u8 64 []),(29,(0,0)))] b1 l1=N1:=(BytesOk.app (x:= [_]) hk).2.trans hN1
  exact rn_ev (yty.enm tabM1 [mMask] 2000004) hbA_h mixed (⟨false,17,[(1,.slice b2 l2 c2),(4,.pointer (some ⟨4,0,none⟩)),(5,.pointer (some ⟨5,0,none⟩))],[((wA .u32 64 kL2),g0),((wA .u64 80 kL5),g1),(a1,t1),(a2,t2),((wA .u8 64 []),(29,(0,0))),((wA .u8 128 (key5 (bytesOf [((wA .u32 64 kL2),g0),((wA .u64 80 kL5),g1),(a1,t1),(a2,t2),((wA .u8 64 []),(29,(0,0)))] b1 l1))),(53,(0,0)))]⟩) none [] [(2,((wA .u32 64 kL2)=wA .u32 64 kL2∧(wA .u64 80 kL5)=wA .u64 80 kL5∧BytesOk [((wA .u32 64 kL2),g0),((wA .u64 80 kL5),g1),(a1,t1),(a2,t2),((wA .u8 64 []),(29,(0,0)))] b1 l1 c1∧l1≤100000000)),(0,((wA .u8 128 (key5 (bytesOf [((wA .u32 64 kL2),g0),((wA .u64 80 kL5),g1),(a1,t1),(a2,t2),((wA .u8 64 []),(29,(0,0)))] b1 l1))).all (fun v=>v.oneCell')=true))] 0 (fun j M=>by kernel_rfl) (A1 ⟨rfl,rfl,(BytesOk.app (x:= [_]) hk).1,hl.1⟩ (A1 (wA_one _ _ _) A0)) (by
    delta hbC
    rw[e1]
    try kernel_rfl)
structure hbD_c (_:hbA_c g0 g1 t1 t2 a1 a2 b1 b2 l1 c1 l2 c2 N1 N2) (S:List Int):Prop where
  hS:S=sh5 (maskL (bL (wA .u8 128 (key5 N1)) 0 128) 54 ++ N2)
variable {S:List Int} {k_3:hbD_c k_2 S}
abbrev hbD (_:hbD_c k_2 S):FS:=⟨false,17,[(4,.pointer (some ⟨4,0,none⟩)),(5,.pointer (some ⟨5,0,none⟩)),(6,.pointer (some ⟨7,0,none⟩))],[((wA .u32 64 kL2),g0),((wA .u64 80 kL5),g1),(a1,t1),(a2,t2),((wA .u8 64 []),(29,(0,0))),((wA .u8 128 (key5 N1)),(53,(0,0))),((wA .u8 (128+l2) (maskL (bL (wA .u8 128 (key5 N1)) 0 128) 54 ++ N2)),(5,(0,0))),((wA .u8 64 S),(29,(0,0)))]⟩
theorem hb2:hbA_R [1,1,0] (hbC k_2) .normal (fun z_=>∃(k_3:hbD_c k_2 (sum5 (wA .u8 (128+l2) (maskL (bL (wA .u8 128 (key5 N1)) 0 128) 54 ++ N2)) 0 (128+l2))),z_=hbD k_3):=by
  have⟨hk,hN1,ht,hN2,hl⟩:=id k_2
  have e2:bytesOf [((wA .u32 64 kL2),g0),((wA .u64 80 kL5),g1),(a1,t1),(a2,t2),((wA .u8 64 []),(29,(0,0))),((wA .u8 128 (key5 N1)),(53,(0,0)))] b2 l2=N2:=(BytesOk.app (x:= [_,_]) ht).2.trans hN2
  have hNl:N2.length=l2:=by rw[← hN2];exact ht.len
  have hbt:∀ x ∈ maskL (bL (wA .u8 128 (key5 N1)) 0 128) 54 ++ N2,0≤x∧x<256:=app_bt maskL_bt (by rw[← hN2];exact ht.bt)
  exact rn_ev (yty.enm tabM1 [mMask] 2000004) hbA_h mixed (⟨false,17,[(4,.pointer (some ⟨4,0,none⟩)),(5,.pointer (some ⟨5,0,none⟩)),(6,.pointer (some ⟨7,0,none⟩))],[((wA .u32 64 kL2),g0),((wA .u64 80 kL5),g1),(a1,t1),(a2,t2),((wA .u8 64 []),(29,(0,0))),((wA .u8 128 (key5 N1)),(53,(0,0))),((wA .u8 (128+l2) (maskL (bL (wA .u8 128 (key5 N1)) 0 128) 54 ++ (bytesOf [((wA .u32 64 kL2),g0),((wA .u64 80 kL5),g1),(a1,t1),(a2,t2),((wA .u8 64 []),(29,(0,0))),((wA .u8 128 (key5 N1)),(53,(0,0)))] b2 l2))),(5,(0,0))),((wA .u8 64 (sum5 (wA .u8 (128+l2) (maskL (bL (wA .u8 128 (key5 N1)) 0 128) 54 ++ (bytesOf [((wA .u32 64 kL2),g0),((wA .u64 80 kL5),g1),(a1,t1),(a2,t2),((wA .u8 64 []),(29,(0,0))),((wA .u8 128 (key5 N1)),(53,(0,0)))] b2 l2))) 0 (128+l2))),(29,(0,0)))]⟩) none [] [(4,(bytesAt (wA .u8 128 (key5 N1)) 0 128∧128≤1000000000∧BytesOk [((wA .u32 64 kL2),g0),((wA .u64 80 kL5),g1),(a1,t1),(a2,t2),((wA .u8 64 []),(29,(0,0))),((wA .u8 128 (key5 N1)),(53,(0,0)))] b2 l2 c2∧l2≤1000000000)),(0,((wA .u32 64 kL2)=wA .u32 64 kL2∧(wA .u64 80 kL5)=wA .u64 80 kL5∧bytesAt (wA .u8 (128+l2) (maskL (bL (wA .u8 128 (key5 N1)) 0 128) 54 ++ (bytesOf [((wA .u32 64 kL2),g0),((wA .u64 80 kL5),g1),(a1,t1),(a2,t2),((wA .u8 64 []),(29,(0,0))),((wA .u8 128 (key5 N1)),(53,(0,0)))] b2 l2))) 0 (128+l2)∧0+(128+l2)≤(wA .u8 (128+l2) (maskL (bL (wA .u8 128 (key5 N1)) 0 128) 54 ++ (bytesOf [((wA .u32 64 kL2),g0),((wA .u64 80 kL5),g1),(a1,t1),(a2,t2),((wA .u8 64 []),(29,(0,0))),((wA .u8 128 (key5 N1)),(53,(0,0)))] b2 l2))).size∧(128+l2)≤(128+l2)∧(128+l2)<1152921504606846976)),(0,((wA .u8 64 (sum5 (wA .u8 (128+l2) (maskL (bL (wA .u8 128 (key5 N1)) 0 128) 54 ++ (bytesOf [((wA .u32 64 kL2),g0),((wA .u64 80 kL5),g1),(a1,t1),(a2,t2),((wA .u8 64 []),(29,(0,0))),((wA .u8 128 (key5 N1)),(53,(0,0)))] b2 l2))) 0 (128+l2))).all (fun v=>v.oneCell')=true))] 0 (fun j M=>by kernel_rfl) (A1 ⟨(by subst hN1;exact bytes_wA (key5_bt hk.bt)),by decide,(BytesOk.app (x:= [_,_]) ht).1,by omega⟩ (A1 ⟨rfl,rfl,by rw[e2];exact bytes_wA hbt,by rw[wA_size];omega,by omega,by omega⟩ (A1 (wA_one _ _ _) A0))) ⟨⟨(sum5_sh (bytes_wA hbt) (by omega)).trans (congrArg sh5 (bL_wA (by simp only[List.length_append,maskL_len,bL_len];omega)))⟩,(by
    delta hbD
    rw[e2]
    try kernel_rfl)⟩
structure hbE_c (_:hbD_c k_2 S) (X:List Int):Prop where
  hX:X=hmac5 N1 N2
variable {X:List Int} {k_4:hbE_c k_3 X}
abbrev hbE (_:hbE_c k_3 X):FS:=⟨false,17,[(4,.pointer (some ⟨4,0,none⟩))],[((wA .u32 64 kL2),g0),((wA .u64 80 kL5),g1),(a1,t1),(a2,t2),((wA .u8 64 X),(29,(0,0))),((wA .u8 128 (key5 N1)),(53,(0,0))),((wA .u8 (128+l2) (maskL (bL (wA .u8 128 (key5 N1)) 0 128) 54 ++ N2)),(5,(0,0))),((wA .u8 64 S),(29,(0,0))),((wA .u8 192 (maskL (bL (wA .u8 128 (key5 N1)) 0 128) 92 ++ bL (wA .u8 64 S) 0 64)),(5,(0,0)))]⟩
def hb3_h (i:Nat):Hn:=if i=3 then⟨0,[(0,true),(1,true),(2,false),(3,false),(4,false)],[],[0,1,2,3,5,6,7],[]⟩ else hbA_h i
theorem hb3:hbA_R [1,1,1] (hbD k_3) .ret (fun z_=>∃(k_4:hbE_c k_3 (sum5 (wA .u8 192 (maskL (bL (wA .u8 128 (key5 N1)) 0 128) 92 ++ bL (wA .u8 64 S) 0 64)) 0 192)),z_=hbE k_4):=by
  have⟨hk,hN1,ht,hN2,hl⟩:=id k_2
  have⟨hS⟩:=id k_3
  exact rn_ev (yty.enm tabM1 [mMask] 2000004) hb3_h mixed _ none [] [(4,(bytesAt (wA .u8 128 (key5 N1)) 0 128∧128≤1000000000∧BytesOk [((wA .u32 64 kL2),g0),((wA .u64 80 kL5),g1),(a1,t1),(a2,t2),((wA .u8 64 []),(29,(0,0))),((wA .u8 128 (key5 N1)),(53,(0,0))),((wA .u8 (128+l2) (maskL (bL (wA .u8 128 (key5 N1)) 0 128) 54 ++ N2)),(5,(0,0))),((wA .u8 64 S),(29,(0,0)))] (some ⟨7,0,none⟩) 64 64∧64≤1000000000)),(0,((wA .u32 64 kL2)=wA .u32 64 kL2∧(wA .u64 80 kL5)=wA .u64 80 kL5∧bytesAt (wA .u8 192 (maskL (bL (wA .u8 128 (key5 N1)) 0 128) 92 ++ (bL (wA .u8 64 S) 0 64))) 0 192∧0+192≤(wA .u8 192 (maskL (bL (wA .u8 128 (key5 N1)) 0 128) 92 ++ (bL (wA .u8 64 S) 0 64))).size∧192≤192∧192<1152921504606846976)),(0,((wA .u8 64 (sum5 (wA .u8 192 (maskL (bL (wA .u8 128 (key5 N1)) 0 128) 92 ++ (bL (wA .u8 64 S) 0 64))) 0 192)).all (fun v=>v.oneCell')=true))] 0 (fun j M=>by kernel_rfl) (A1 ⟨(by subst hN1;exact bytes_wA (key5_bt hk.bt)),by decide,.inr ⟨7,0,_,_,rfl,rfl,(by rw[hS];exact bytes_wA (sh5_bt _)),by rw[wA_size];decide,by decide⟩,by decide⟩ (A1 ⟨rfl,rfl,bytes_wA (app_bt maskL_bt (bL_bt (by rw[hS];exact bytes_wA (sh5_bt _)))),by rw[wA_size];decide,by decide,by decide⟩ (A1 (wA_one _ _ _) A0))) ⟨⟨(sum5_sh (bytes_wA (app_bt maskL_bt (bL_bt (by rw[hS];exact bytes_wA (sh5_bt _))))) (by decide)).trans (by rw[bL_wA (by simp only[List.length_append,maskL_len,bL_len]),bL_wA (n:=64) (L:=S) (by rw[hS];exact sh5_len _),hS];rfl)⟩,rfl⟩
theorem hbu':hbA_R [] (hbA k_2) .ret (fun z_=>∃(k_3:hbD_c k_2 (sum5 (wA .u8 (128+l2) (maskL (bL (wA .u8 128 (key5 N1)) 0 128) 54 ++ N2)) 0 (128+l2))) (k_4:hbE_c k_3 (sum5 (wA .u8 192 (maskL (bL (wA .u8 128 (key5 N1)) 0 128) 92 ++ bL (wA .u8 64 (sum5 (wA .u8 (128+l2) (maskL (bL (wA .u8 128 (key5 N1)) 0 128) 54 ++ N2)) 0 (128+l2))) 0 64)) 0 192)),z_=hbE k_4):=by
  refine rn_seq (w:= []) (by kernel_rfl) hb0 ?_
  rintro _ rfl
  refine rn_seq (w:= [1]) (by kernel_rfl) hb1 ?_
  rintro _ rfl
  refine rn_seq (w:= [1,1]) (by kernel_rfl) hb2 ?_
  rintro _ ⟨k_3,rfl⟩
  exact(hb3).mono fun _ ⟨k_4,e_⟩=>⟨k_3,k_4,e_⟩
abbrev hbA_s (g0 g1 t1 t2:Tq) (a1 a2:Array Value) (b1 b2:Option Addr) (l1 c1 l2 c2:Nat) (N1 N2:List Int) (j:Nat→Value):List Value:=([.slice b1 l1 c1,.slice b2 l2 c2] ++ (JU 15))
abbrev hbA_m (g0 g1 t1 t2:Tq) (a1 a2:Array Value) (b1 b2:Option Addr) (l1 c1 l2 c2:Nat) (N1 N2:List Int):List Mb:= [((wA .u32 64 kL2),g0),((wA .u64 80 kL5),g1),(a1,t1),(a2,t2)]
abbrev hbE_s (g0 g1 t1 t2:Tq) (a1 a2:Array Value) (b1 b2:Option Addr) (l1 c1 l2 c2:Nat) (N1 N2:List Int) (S X:List Int) (j:Nat→Value):List Value:=(J j 0 4 ++ ([.pointer (some ⟨4,0,none⟩)] ++ (J j 5 12)))
abbrev hbE_m (g0 g1 t1 t2:Tq) (a1 a2:Array Value) (b1 b2:Option Addr) (l1 c1 l2 c2:Nat) (N1 N2:List Int) (S X:List Int):List Mb:= [((wA .u32 64 kL2),g0),((wA .u64 80 kL5),g1),(a1,t1),(a2,t2),((wA .u8 64 X),(29,(0,0))),((wA .u8 128 (key5 N1)),(53,(0,0))),((wA .u8 (128+l2) (maskL (bL (wA .u8 128 (key5 N1)) 0 128) 54 ++ N2)),(5,(0,0))),((wA .u8 64 S),(29,(0,0))),((wA .u8 192 (maskL (bL (wA .u8 128 (key5 N1)) 0 128) 92 ++ bL (wA .u8 64 S) 0 64)),(5,(0,0)))]
theorem hbu (g0 g1 t1 t2:Tq) (a1 a2:Array Value) (b1 b2:Option Addr) (l1 c1 l2 c2:Nat) (N1 N2:List Int) (j:Nat→Value) (hk:BytesOk [(wA .u32 64 kL2,g0),(wA .u64 80 kL5,g1),(a1,t1),(a2,t2)] b1 l1 c1) (hN1:bytesOf [(wA .u32 64 kL2,g0),(wA .u64 80 kL5,g1),(a1,t1),(a2,t2)] b1 l1=N1) (ht:BytesOk [(wA .u32 64 kL2,g0),(wA .u64 80 kL5,g1),(a1,t1),(a2,t2)] b2 l2 c2) (hN2:bytesOf [(wA .u32 64 kL2,g0),(wA .u64 80 kL5,g1),(a1,t1),(a2,t2)] b2 l2=N2) (hl:l1≤100000000∧l2≤100000000)  :Runs Tryd.prog (cAt [] (bdy Tryd.f16)) ⟨hbA_s g0 g1 t1 t2 a1 a2 b1 b2 l1 c1 l2 c2 N1 N2 j,hbA_m g0 g1 t1 t2 a1 a2 b1 b2 l1 c1 l2 c2 N1 N2,c0,ch0⟩ (fun e s=>e= .ret∧∃j c ch,((sum5 (wA .u8 (128+l2) (maskL (bL (wA .u8 128 (key5 N1)) 0 128) 54 ++ N2)) 0 (128+l2))=sh5 (maskL (bL (wA .u8 128 (key5 N1)) 0 128) 54 ++ N2))∧((sum5 (wA .u8 192 (maskL (bL (wA .u8 128 (key5 N1)) 0 128) 92 ++ bL (wA .u8 64 (sum5 (wA .u8 (128+l2) (maskL (bL (wA .u8 128 (key5 N1)) 0 128) 54 ++ N2)) 0 (128+l2))) 0 64)) 0 192)=hmac5 N1 N2)∧s=⟨hbE_s g0 g1 t1 t2 a1 a2 b1 b2 l1 c1 l2 c2 N1 N2 (sum5 (wA .u8 (128+l2) (maskL (bL (wA .u8 128 (key5 N1)) 0 128) 54 ++ N2)) 0 (128+l2)) (sum5 (wA .u8 192 (maskL (bL (wA .u8 128 (key5 N1)) 0 128) 92 ++ bL (wA .u8 64 (sum5 (wA .u8 (128+l2) (maskL (bL (wA .u8 128 (key5 N1)) 0 128) 54 ++ N2)) 0 (128+l2))) 0 64)) 0 192) j,hbE_m g0 g1 t1 t2 a1 a2 b1 b2 l1 c1 l2 c2 N1 N2 (sum5 (wA .u8 (128+l2) (maskL (bL (wA .u8 128 (key5 N1)) 0 128) 54 ++ N2)) 0 (128+l2)) (sum5 (wA .u8 192 (maskL (bL (wA .u8 128 (key5 N1)) 0 128) 92 ++ bL (wA .u8 64 (sum5 (wA .u8 (128+l2) (maskL (bL (wA .u8 128 (key5 N1)) 0 128) 54 ++ N2)) 0 (128+l2))) 0 64)) 0 192),c,ch⟩) 2000004:=by
  refine(Rn.old (hbu' (k_2:=(⟨hk,hN1,ht,hN2,hl⟩:hbA_c g0 g1 t1 t2 a1 a2 b1 b2 l1 c1 l2 c2 N1 N2))) j (by kernel_rfl)).mono ?_
  rintro e s ⟨rfl,_,⟨k_3,k_4,rfl⟩,j,c,ch,rfl⟩
  have⟨x_hS⟩:=k_3
  have⟨x_hX⟩:=k_4
  exact⟨rfl,j,c,ch,x_hS,x_hX,by kernel_rfl⟩
theorem Hmac5_c (g0 g1 t1 t2:Tq) (a1 a2:Array Value) (b1 b2:Option Addr) (l1 c1 l2 c2:Nat) (hk:BytesOk [(wA .u32 64 kL2,g0),(wA .u64 80 kL5,g1),(a1,t1),(a2,t2)] b1 l1 c1) (ht:BytesOk [(wA .u32 64 kL2,g0),(wA .u64 80 kL5,g1),(a1,t1),(a2,t2)] b2 l2 c2) (hl:l1≤100000000∧l2≤100000000):Reads Tryd.prog 16 [(wA .u32 64 kL2,g0),(wA .u64 80 kL5,g1),(a1,t1),(a2,t2)] [.slice b1 l1 c1,.slice b2 l2 c2] (.agg (wA .u8 64 (hmac5 (bytesOf [(wA .u32 64 kL2,g0),(wA .u64 80 kL5,g1),(a1,t1),(a2,t2)] b1 l1) (bytesOf [(wA .u32 64 kL2,g0),(wA .u64 80 kL5,g1),(a1,t1),(a2,t2)] b2 l2)))) 2:=by
  refine reads_runs (fk:=2000004) (yty.enm tabM1 [mMask] 2000004) Tryd.func16 (c:=bdy Tryd.f16) (by kernel_rfl) ⟨len4 _ _ _ _,by decide⟩ (args:= [.slice b1 l1 c1,.slice b2 l2 c2]) (by show(Go.Ev.okp 4 (.slice b1 l1 c1) && (Go.Ev.okp 4 (.slice b2 l2 c2) && true))=true;rw[show Go.Ev.okp 4 (.slice b1 l1 c1)=true from hk.okp,show Go.Ev.okp 4 (.slice b2 l2 c2)=true from ht.okp];rfl) (K:=fun e s=>e= .ret∧resS (yty.enm tabM1 [mMask] 2000004) s Tryd.f16.results.toList=some [.agg (wA .u8 64 (hmac5 (bytesOf [(wA .u32 64 kL2,g0),(wA .u64 80 kL5,g1),(a1,t1),(a2,t2)] b1 l1) (bytesOf [(wA .u32 64 kL2,g0),(wA .u64 80 kL5,g1),(a1,t1),(a2,t2)] b2 l2)))]) ?_ (fun e s h=>⟨h.1,_,h.2,rfl⟩)
  generalize h1:bytesOf [(wA .u32 64 kL2,g0),(wA .u64 80 kL5,g1),(a1,t1),(a2,t2)] b1 l1=N1
  generalize h2:bytesOf [(wA .u32 64 kL2,g0),(wA .u64 80 kL5,g1),(a1,t1),(a2,t2)] b2 l2=N2
  refine(hbu g0 g1 t1 t2 a1 a2 b1 b2 l1 c1 l2 c2 N1 N2 (fun _=>undef) hk h1 ht h2 hl).mono ?_
  rintro e s ⟨rfl,hh⟩
  obtain⟨j,c,ch,hS,hX,rfl⟩:=hh
  rw[← hX]
  exact⟨rfl,by kernel_rfl⟩
def pHa2 : Entry Tryd.prog where
  f:=15
  ng:=2
  g := fun mem xs => match xs with
    | [.slice bp l cp, .slice bq m cq] => (match mem[0]?, mem[1]? with
      |some (x0,_),some (x1,_)=>some (.agg (wA .u8 32 (hmac2 (bytesOf mem bp l) (bytesOf mem bq m))),(x0=wA .u32 64 kL2∧x1=wA .u64 80 kL5∧BytesOk mem bp l cp∧BytesOk mem bq m cq∧l≤100000000∧m≤100000000))
      |_,_=>none)
    |_=>none
  ok := fun mem xs v c e hc w β hw hg => by
    split at e
    · rename_i bp l cp bq m cq
      split at e
      · rename_i x0 g0 x1 g1 h0 h1
        simp only[Option.some.injEq,Prod.mk.injEq] at e
        obtain⟨rfl,rfl⟩:=e
        obtain⟨rfl,rfl,hB,hC,hl,hm⟩:=hc
        refine lift2 (post:= []) rfl hB hC h0 h1 (fun y z q r h2 h3 h4 h5=> ?_) hw (hg 0 (by decide)) (hg 1 (by decide))
        rw[← h3,← h5]
        exact Hmac2_c g0 g1 y.2 z.2 y.1 z.1 q r l cp m cq h2 h4 ⟨hl,hm⟩
      · cases e
    · cases e
  call:=call_of Tryd.func15 (by kernel_rfl) (by kernel_rfl)
def pHa5 : Entry Tryd.prog where
  f:=16
  ng:=2
  g := fun mem xs => match xs with
    | [.slice bp l cp, .slice bq m cq] => (match mem[0]?, mem[1]? with
      |some (x0,_),some (x1,_)=>some (.agg (wA .u8 64 (hmac5 (bytesOf mem bp l) (bytesOf mem bq m))),(x0=wA .u32 64 kL2∧x1=wA .u64 80 kL5∧BytesOk mem bp l cp∧BytesOk mem bq m cq∧l≤100000000∧m≤100000000))
      |_,_=>none)
    |_=>none
  ok := fun mem xs v c e hc w β hw hg => by
    split at e
    · rename_i bp l cp bq m cq
      split at e
      · rename_i x0 g0 x1 g1 h0 h1
        simp only[Option.some.injEq,Prod.mk.injEq] at e
        obtain⟨rfl,rfl⟩:=e
        obtain⟨rfl,rfl,hB,hC,hl,hm⟩:=hc
        refine lift2 (post:= []) rfl hB hC h0 h1 (fun y z q r h2 h3 h4 h5=> ?_) hw (hg 0 (by decide)) (hg 1 (by decide))
        rw[← h3,← h5]
        exact Hmac5_c g0 g1 y.2 z.2 y.1 z.1 q r l cp m cq h2 h4 ⟨hl,hm⟩
      · cases e
    · cases e
  call:=call_of Tryd.func16 (by kernel_rfl) (by kernel_rfl)
def tabM2:List (Entry Tryd.prog):=pHa2 :: pHa5 :: tabM1
end Go.Proofs.YtcfnjcacdmkgbaaDoor

set_option linter.unusedSimpArgs false
set_option linter.unusedVariables false
/-! mac: Jefe's. -/
namespace Go.Proofs.YtcfnjcacdmkgbaaDoor
open Go.RowKit Go.Ev
variable {c0:Prop} {ch0:List (Option Value)}
def jS0:ByteArray:=⟨#[91,220,193,70,191,96,117,78]⟩
def jS1:ByteArray:=⟨#[22,75,122,123,252,248,25,226]⟩
theorem jefe2:hmac2 (bL (wA .u8 4 [74,101,102,101]) 0 4) (bL (wA .u8 28 [119,104,97,116,32,100,111,32,121,97,32,119,97,110,116,32,102,111,114,32,110,111,116,104,105,110,103,63]) 0 28)= [91,220,193,70,191,96,117,78,106,4,36,38,8,149,117,199,90,0,63,8,157,39,57,131,157,236,88,185,100,236,56,67]:=by kernel_rfl
theorem jefe5:hmac5 (bL (wA .u8 4 [74,101,102,101]) 0 4) (bL (wA .u8 28 [119,104,97,116,32,100,111,32,121,97,32,119,97,110,116,32,102,111,114,32,110,111,116,104,105,110,103,63]) 0 28)= [22,75,122,123,252,248,25,226,227,149,251,231,59,86,224,163,135,189,100,34,46,131,31,214,16,39,12,215,234,37,5,84,151,88,191,117,192,90,153,74,109,3,79,101,248,240,230,253,202,234,177,163,77,74,107,75,99,110,7,10,56,188,231,55]:=by kernel_rfl
def jfA_h (i:Nat):Hn:=⟨0,[],[],[],[]⟩
abbrev jfA_R (w:List Nat) (S:FS) (e:Exit) (K:FS→Prop):Prop:=Rn Tryd.prog (cAt w (bdy Tryd.f13)) S e K 2000002
structure jfA_c (g0 g1:Tq):Prop where
variable {g0 g1:Tq} {k_1:jfA_c g0 g1}
abbrev jfA (_:jfA_c g0 g1):FS:=⟨true,21,[],[((wA .u32 64 kL2),g0),((wA .u64 80 kL5),g1)]⟩
abbrev jfB (_:jfA_c g0 g1):FS:=⟨false,21,[(0,.bool false)],[((wA .u32 64 kL2),g0),((wA .u64 80 kL5),g1)]⟩
theorem jf0:jfA_R [0] (jfA k_1) .normal (fun z_=>z_=jfB k_1):=rn_ev (yty.enm tabM2 [mMask] 2000002) jfA_h mixed _ none [] [] 1 (fun j M=>by kernel_rfl) A0 rfl
structure jfC_c (_:jfA_c g0 g1) (S:List Int):Prop where
  hS:S= [91,220,193,70,191,96,117,78,106,4,36,38,8,149,117,199,90,0,63,8,157,39,57,131,157,236,88,185,100,236,56,67]
variable {S:List Int} {k_2:jfC_c k_1 S}
abbrev jfC (_:jfC_c k_1 S):FS:=⟨false,21,[(1,.pointer (some ⟨4,0,none⟩))],[((wA .u32 64 kL2),g0),((wA .u64 80 kL5),g1),((wA .u8 4 [74,101,102,101]),(5,(4,5))),((wA .u8 28 [119,104,97,116,32,100,111,32,121,97,32,119,97,110,116,32,102,111,114,32,110,111,116,104,105,110,103,63]),(5,(28,29))),((wA .u8 32 S),(25,(0,0)))]⟩
theorem jf1:jfA_R [1,0] (jfB k_1) .normal (fun z_=>∃(k_2:jfC_c k_1 (hmac2 (bL (wA .u8 4 [74,101,102,101]) 0 4) (bL (wA .u8 28 [119,104,97,116,32,100,111,32,121,97,32,119,97,110,116,32,102,111,114,32,110,111,116,104,105,110,103,63]) 0 28))),z_=jfC k_2):=rn_ev (yty.enm tabM2 [mMask] 2000002) jfA_h mixed _ none [] [(0,((wA .u32 64 kL2)=wA .u32 64 kL2∧(wA .u64 80 kL5)=wA .u64 80 kL5∧BytesOk [((wA .u32 64 kL2),g0),((wA .u64 80 kL5),g1),((wA .u8 4 [74,101,102,101]),(5,(4,5))),((wA .u8 28 [119,104,97,116,32,100,111,32,121,97,32,119,97,110,116,32,102,111,114,32,110,111,116,104,105,110,103,63]),(5,(28,29)))] (some ⟨2,0,none⟩) 4 4∧BytesOk [((wA .u32 64 kL2),g0),((wA .u64 80 kL5),g1),((wA .u8 4 [74,101,102,101]),(5,(4,5))),((wA .u8 28 [119,104,97,116,32,100,111,32,121,97,32,119,97,110,116,32,102,111,114,32,110,111,116,104,105,110,103,63]),(5,(28,29)))] (some ⟨3,0,none⟩) 28 28∧4≤100000000∧28≤100000000)),(0,((wA .u8 32 (hmac2 (bL (wA .u8 4 [74,101,102,101]) 0 4) (bL (wA .u8 28 [119,104,97,116,32,100,111,32,121,97,32,119,97,110,116,32,102,111,114,32,110,111,116,104,105,110,103,63]) 0 28))).all (fun v=>v.oneCell')=true))] 0 (fun j M=>by kernel_rfl) (A1 ⟨rfl,rfl,(.inr ⟨2,0,_,_,rfl,rfl,bytes_wA (by decide),by rw[wA_size];decide,by decide⟩),(.inr ⟨3,0,_,_,rfl,rfl,bytes_wA (by decide),by rw[wA_size];decide,by decide⟩),by decide,by decide⟩ (A1 (wA_one _ _ _) A0)) ⟨⟨jefe2⟩,rfl⟩
structure jfD_c (_:jfC_c k_1 S) (X:List Int):Prop where
  hX:X= [22,75,122,123,252,248,25,226,227,149,251,231,59,86,224,163,135,189,100,34,46,131,31,214,16,39,12,215,234,37,5,84,151,88,191,117,192,90,153,74,109,3,79,101,248,240,230,253,202,234,177,163,77,74,107,75,99,110,7,10,56,188,231,55]
variable {X:List Int} {k_3:jfD_c k_2 X}
abbrev jfD (_:jfD_c k_2 X):FS:=⟨false,21,[(1,.pointer (some ⟨4,0,none⟩)),(2,.pointer (some ⟨7,0,none⟩))],[((wA .u32 64 kL2),g0),((wA .u64 80 kL5),g1),((wA .u8 4 [74,101,102,101]),(5,(4,5))),((wA .u8 28 [119,104,97,116,32,100,111,32,121,97,32,119,97,110,116,32,102,111,114,32,110,111,116,104,105,110,103,63]),(5,(28,29))),((wA .u8 32 S),(25,(0,0))),((wA .u8 4 [74,101,102,101]),(5,(4,5))),((wA .u8 28 [119,104,97,116,32,100,111,32,121,97,32,119,97,110,116,32,102,111,114,32,110,111,116,104,105,110,103,63]),(5,(28,29))),((wA .u8 64 X),(29,(0,0)))]⟩
theorem jf2:jfA_R [1,1,0] (jfC k_2) .normal (fun z_=>∃(k_3:jfD_c k_2 (hmac5 (bL (wA .u8 4 [74,101,102,101]) 0 4) (bL (wA .u8 28 [119,104,97,116,32,100,111,32,121,97,32,119,97,110,116,32,102,111,114,32,110,111,116,104,105,110,103,63]) 0 28))),z_=jfD k_3):=rn_ev (yty.enm tabM2 [mMask] 2000002) jfA_h mixed _ none [] [(0,((wA .u32 64 kL2)=wA .u32 64 kL2∧(wA .u64 80 kL5)=wA .u64 80 kL5∧BytesOk [((wA .u32 64 kL2),g0),((wA .u64 80 kL5),g1),((wA .u8 4 [74,101,102,101]),(5,(4,5))),((wA .u8 28 [119,104,97,116,32,100,111,32,121,97,32,119,97,110,116,32,102,111,114,32,110,111,116,104,105,110,103,63]),(5,(28,29))),((wA .u8 32 S),(25,(0,0))),((wA .u8 4 [74,101,102,101]),(5,(4,5))),((wA .u8 28 [119,104,97,116,32,100,111,32,121,97,32,119,97,110,116,32,102,111,114,32,110,111,116,104,105,110,103,63]),(5,(28,29)))] (some ⟨5,0,none⟩) 4 4∧BytesOk [((wA .u32 64 kL2),g0),((wA .u64 80 kL5),g1),((wA .u8 4 [74,101,102,101]),(5,(4,5))),((wA .u8 28 [119,104,97,116,32,100,111,32,121,97,32,119,97,110,116,32,102,111,114,32,110,111,116,104,105,110,103,63]),(5,(28,29))),((wA .u8 32 S),(25,(0,0))),((wA .u8 4 [74,101,102,101]),(5,(4,5))),((wA .u8 28 [119,104,97,116,32,100,111,32,121,97,32,119,97,110,116,32,102,111,114,32,110,111,116,104,105,110,103,63]),(5,(28,29)))] (some ⟨6,0,none⟩) 28 28∧4≤100000000∧28≤100000000)),(0,((wA .u8 64 (hmac5 (bL (wA .u8 4 [74,101,102,101]) 0 4) (bL (wA .u8 28 [119,104,97,116,32,100,111,32,121,97,32,119,97,110,116,32,102,111,114,32,110,111,116,104,105,110,103,63]) 0 28))).all (fun v=>v.oneCell')=true))] 0 (fun j M=>by kernel_rfl) (A1 ⟨rfl,rfl,(.inr ⟨5,0,_,_,rfl,rfl,bytes_wA (by decide),by rw[wA_size];decide,by decide⟩),(.inr ⟨6,0,_,_,rfl,rfl,bytes_wA (by decide),by rw[wA_size];decide,by decide⟩),by decide,by decide⟩ (A1 (wA_one _ _ _) A0)) ⟨⟨jefe5⟩,rfl⟩
abbrev jfE (_:jfD_c k_2 X):FS:=⟨false,21,[(0,.bool true)],[((wA .u32 64 kL2),g0),((wA .u64 80 kL5),g1),((wA .u8 4 [74,101,102,101]),(5,(4,5))),((wA .u8 28 [119,104,97,116,32,100,111,32,121,97,32,119,97,110,116,32,102,111,114,32,110,111,116,104,105,110,103,63]),(5,(28,29))),((wA .u8 32 S),(25,(0,0))),((wA .u8 4 [74,101,102,101]),(5,(4,5))),((wA .u8 28 [119,104,97,116,32,100,111,32,121,97,32,119,97,110,116,32,102,111,114,32,110,111,116,104,105,110,103,63]),(5,(28,29))),((wA .u8 64 X),(29,(0,0)))]⟩
theorem jf3:jfA_R [1,1,1] (jfD k_3) .ret (fun z_=>z_=jfE k_3):=by
  have⟨hS⟩:=id k_2
  have⟨hX⟩:=id k_3
  exact rn_ev (yty.enm tabM2 [mMask] 2000002) jfA_h mixed _ none [some (.bool true),some (.bool true)] [(2,(((wA .u8 32 S).extract 0 (0+8)).all isB8=true∧0+8≤(wA .u8 32 S).size)),(1,(((bstr ((wA .u8 32 S).extract 0 (0+8)))).toList == (jS0).toList)=true),(4,(((wA .u8 64 X).extract 0 (0+8)).all isB8=true∧0+8≤(wA .u8 64 X).size)),(1,(((bstr ((wA .u8 64 X).extract 0 (0+8)))).toList == (jS1).toList)=true)] 2 (fun j M=>by kernel_rfl) (A1 ⟨by subst hS;kernel_rfl,by rw[wA_size];decide⟩ (A1 (by subst hS;exact txt_eq (by kernel_rfl)) (A1 ⟨by subst hX;kernel_rfl,by rw[wA_size];decide⟩ (A1 (by subst hX;exact txt_eq (by kernel_rfl)) A0)))) rfl
theorem jfu':jfA_R [] (jfA k_1) .ret (fun z_=>∃(k_2:jfC_c k_1 (hmac2 (bL (wA .u8 4 [74,101,102,101]) 0 4) (bL (wA .u8 28 [119,104,97,116,32,100,111,32,121,97,32,119,97,110,116,32,102,111,114,32,110,111,116,104,105,110,103,63]) 0 28))) (k_3:jfD_c k_2 (hmac5 (bL (wA .u8 4 [74,101,102,101]) 0 4) (bL (wA .u8 28 [119,104,97,116,32,100,111,32,121,97,32,119,97,110,116,32,102,111,114,32,110,111,116,104,105,110,103,63]) 0 28))),z_=jfE k_3):=by
  refine rn_seq (w:= []) (by kernel_rfl) jf0 ?_
  rintro _ rfl
  refine rn_seq (w:= [1]) (by kernel_rfl) jf1 ?_
  rintro _ ⟨k_2,rfl⟩
  refine rn_seq (w:= [1,1]) (by kernel_rfl) jf2 ?_
  rintro _ ⟨k_3,rfl⟩
  exact(jf3).mono fun _ e_=>⟨k_2,k_3,e_⟩
abbrev jfA_s (g0 g1:Tq) (j:Nat→Value):List Value:=(JU 21)
abbrev jfA_m (g0 g1:Tq):List Mb:= [((wA .u32 64 kL2),g0),((wA .u64 80 kL5),g1)]
abbrev jfE_s (g0 g1:Tq) (S X:List Int) (j:Nat→Value):List Value:=([.bool true] ++ (J j 1 20))
abbrev jfE_m (g0 g1:Tq) (S X:List Int):List Mb:= [((wA .u32 64 kL2),g0),((wA .u64 80 kL5),g1),((wA .u8 4 [74,101,102,101]),(5,(4,5))),((wA .u8 28 [119,104,97,116,32,100,111,32,121,97,32,119,97,110,116,32,102,111,114,32,110,111,116,104,105,110,103,63]),(5,(28,29))),((wA .u8 32 S),(25,(0,0))),((wA .u8 4 [74,101,102,101]),(5,(4,5))),((wA .u8 28 [119,104,97,116,32,100,111,32,121,97,32,119,97,110,116,32,102,111,114,32,110,111,116,104,105,110,103,63]),(5,(28,29))),((wA .u8 64 X),(29,(0,0)))]
theorem jfu (g0 g1:Tq) (j:Nat→Value)   :Runs Tryd.prog (cAt [] (bdy Tryd.f13)) ⟨jfA_s g0 g1 j,jfA_m g0 g1,c0,ch0⟩ (fun e s=>e= .ret∧∃j c ch,((hmac2 (bL (wA .u8 4 [74,101,102,101]) 0 4) (bL (wA .u8 28 [119,104,97,116,32,100,111,32,121,97,32,119,97,110,116,32,102,111,114,32,110,111,116,104,105,110,103,63]) 0 28))= [91,220,193,70,191,96,117,78,106,4,36,38,8,149,117,199,90,0,63,8,157,39,57,131,157,236,88,185,100,236,56,67])∧((hmac5 (bL (wA .u8 4 [74,101,102,101]) 0 4) (bL (wA .u8 28 [119,104,97,116,32,100,111,32,121,97,32,119,97,110,116,32,102,111,114,32,110,111,116,104,105,110,103,63]) 0 28))= [22,75,122,123,252,248,25,226,227,149,251,231,59,86,224,163,135,189,100,34,46,131,31,214,16,39,12,215,234,37,5,84,151,88,191,117,192,90,153,74,109,3,79,101,248,240,230,253,202,234,177,163,77,74,107,75,99,110,7,10,56,188,231,55])∧s=⟨jfE_s g0 g1 (hmac2 (bL (wA .u8 4 [74,101,102,101]) 0 4) (bL (wA .u8 28 [119,104,97,116,32,100,111,32,121,97,32,119,97,110,116,32,102,111,114,32,110,111,116,104,105,110,103,63]) 0 28)) (hmac5 (bL (wA .u8 4 [74,101,102,101]) 0 4) (bL (wA .u8 28 [119,104,97,116,32,100,111,32,121,97,32,119,97,110,116,32,102,111,114,32,110,111,116,104,105,110,103,63]) 0 28)) j,jfE_m g0 g1 (hmac2 (bL (wA .u8 4 [74,101,102,101]) 0 4) (bL (wA .u8 28 [119,104,97,116,32,100,111,32,121,97,32,119,97,110,116,32,102,111,114,32,110,111,116,104,105,110,103,63]) 0 28)) (hmac5 (bL (wA .u8 4 [74,101,102,101]) 0 4) (bL (wA .u8 28 [119,104,97,116,32,100,111,32,121,97,32,119,97,110,116,32,102,111,114,32,110,111,116,104,105,110,103,63]) 0 28)),c,ch⟩) 2000002:=by
  refine(Rn.old (jfu' (k_1:=(⟨⟩:jfA_c g0 g1))) j (by kernel_rfl)).mono ?_
  rintro e s ⟨rfl,_,⟨k_2,k_3,rfl⟩,j,c,ch,rfl⟩
  have⟨x_hS⟩:=k_2
  have⟨x_hX⟩:=k_3
  exact⟨rfl,j,c,ch,x_hS,x_hX,by kernel_rfl⟩
theorem Jefe_c (g0 g1:Tq):Reads Tryd.prog 13 [(wA .u32 64 kL2,g0),(wA .u64 80 kL5,g1)] [] (.bool true) 2:=by
  refine reads_runs (fk:=2000002) (yty.enm tabM2 [mMask] 2000002) Tryd.func13 (c:=bdy Tryd.f13) (by kernel_rfl) ⟨len2 _ _,by decide⟩ (args:= []) rfl (K:=fun e s=>e= .ret∧resS (yty.enm tabM2 [mMask] 2000002) s Tryd.f13.results.toList=some [.bool true]) ?_ (fun e s h=>⟨h.1,_,h.2,rfl⟩)
  refine(jfu g0 g1 (fun _=>undef)).mono ?_
  rintro e s ⟨rfl,hh⟩
  obtain⟨j,c,ch,hS,hX,rfl⟩:=hh
  exact⟨rfl,by kernel_rfl⟩
def pKn7 : Entry Tryd.prog where
  f:=13
  ng:=2
  g := fun mem xs => match xs with
    | [] => (match mem[0]?, mem[1]? with
      |some (x0,_),some (x1,_)=>some (.bool true,(x0=wA .u32 64 kL2∧x1=wA .u64 80 kL5))
      |_,_=>none)
    |_=>none
  ok := fun mem xs v c e hc w β hw hg => by
    split at e
    · split at e
      · rename_i x0 g0 x1 g1 h0 h1
        simp only[Option.some.injEq,Prod.mk.injEq] at e
        obtain⟨rfl,rfl⟩:=e
        obtain⟨rfl,rfl⟩:=hc
        exact readsN rfl (Jefe_c g0 g1) h0 h1 hw (hg 0 (by decide)) (hg 1 (by decide))
      · cases e
    · cases e
  call:=call_of Tryd.func13 (by kernel_rfl) (by kernel_rfl)
def tabM3:List (Entry Tryd.prog):=pKn7 :: tabM2
end Go.Proofs.YtcfnjcacdmkgbaaDoor

set_option linter.unusedSimpArgs false
set_option linter.unusedVariables false
/-! The document's HMAC: a key's block. -/
namespace Go.Proofs.YtcfnjcacdmkgbaaDoor
open Go.RowKit Go.Ev
variable {c0:Prop} {ch0:List (Option Value)}
def padL (N:List Int) (b:Int) (q:Nat):List Int:=(List.range q).map fun i=>bits .xor .u8 (N.getD i 0) b
theorem padL_len (N:List Int) (b:Int) (q:Nat):(padL N b q).length=q:=by simp[padL]
theorem padL_step (N:List Int) (b:Int) (q:Nat):padL N b (q+1)=padL N b q ++ [bits .xor .u8 (N.getD q 0) b]:=by
  unfold padL;rw[List.range_succ,List.map_append];rfl
theorem padL_mask {N:List Int} {b:Int} {n:Nat}:maskL (bL (wA .u8 n N) 0 n) b=padL N b n:=by
  unfold maskL bL padL
  rw[List.map_map]
  apply List.map_congr_left
  intro i hi
  have hi:i<n:=by simpa using hi
  have e:iat (wA .u8 n N) (0+i)=N.getD i 0:=by rw[Nat.zero_add];unfold iat;rw[wA_at hi]
  simp only[Function.comp_apply,e]
def wiA_h (i:Nat):Hn:=⟨0,[],[],[],[]⟩
abbrev wiA_R (w:List Nat) (S:FS) (e:Exit) (K:FS→Prop):Prop:=Rn Tryd.prog (cAt w (bdy Tryd.f37)) S e K 1
structure wiA_c (a:Array Value) (t:Tq) (o l cp n:Nat) (b:Int):Prop where
  ha:bytesAt a o l
  hl:l≤1000000000
  hn:1≤n∧n≤1000000000
variable {a:Array Value} {t:Tq} {o l cp n:Nat} {b:Int} {k_1:wiA_c a t o l cp n b}
abbrev wiA (_:wiA_c a t o l cp n b):FS:=⟨true,30,[(0,.slice (some ⟨0,o,none⟩) l cp),(1,.int .i64 (n:Int)),(2,.int .u8 b)],[(a,t)]⟩
abbrev wiB (_:wiA_c a t o l cp n b):FS:=⟨false,30,[(0,.slice (some ⟨0,o,none⟩) l cp),(1,.int .i64 (n:Int)),(2,.int .u8 b)],[(a,t)]⟩
abbrev wiC (_:wiA_c a t o l cp n b):FS:=⟨false,30,[(0,.slice (some ⟨0,o,none⟩) l cp),(1,.int .i64 (n:Int)),(2,.int .u8 b),(7,.slice none 0 0)],[(a,t)]⟩
theorem wi0:wiA_R [0] (wiA k_1) .normal (fun z_=>z_=wiB k_1):=rn_ev (yty.enf tab0 1) wiA_h mixed _ none [] [] 1 (fun j M=>by kernel_rfl) A0 rfl
theorem wi1:wiA_R [1,0] (wiB k_1) .normal (fun z_=>z_=wiC k_1):=rn_ev (yty.enf tab0 1) wiA_h mixed _ none [] [] 1 (fun j M=>by kernel_rfl) A0 rfl
abbrev wiD (_:wiA_c a t o l cp n b):FS:=⟨false,30,[(0,.slice (some ⟨0,o,none⟩) l cp),(1,.int .i64 (n:Int)),(2,.int .u8 b),(7,.slice none 0 0),(8,.int .i64 0)],[(a,t)]⟩
theorem wi2:wiA_R [1,1,0,0] (wiC k_1) .normal (fun z_=>z_=wiD k_1):=rn_ev (yty.enf tab0 1) wiA_h mixed _ none [] [] 1 (fun j M=>by kernel_rfl) A0 rfl
structure wiE_c (_:wiA_c a t o l cp n b) (k c4:Nat) (Y:List Int):Prop where
  hY:Y=padL (bL a o l) b (k)
  hYl:Y.length=k
  hk:1≤k∧k≤n
  hc4:k≤c4
variable {k c4:Nat} {Y:List Int} {k_2:wiE_c k_1 k c4 Y}
abbrev wiE (_:wiE_c k_1 k c4 Y):FS:=⟨false,30,[(0,.slice (some ⟨0,o,none⟩) l cp),(1,.int .i64 (n:Int)),(2,.int .u8 b),(7,.slice (some ⟨1,0,none⟩) k c4),(8,.int .i64 (k:Int))],[(a,t),((wA .u8 c4 Y),(5,(0,0)))]⟩
structure wiF_c (_:wiA_c a t o l cp n b) (k c4:Nat) (Y:List Int):Prop where
  hY:Y=padL (bL a o l) b (k)
  hYl:Y.length=k
  hk:1≤k∧k<n
  hc4:k≤c4
variable {k_3:wiF_c k_1 k c4 Y}
abbrev wiF (_:wiF_c k_1 k c4 Y):FS:=⟨false,30,[(0,.slice (some ⟨0,o,none⟩) l cp),(1,.int .i64 (n:Int)),(2,.int .u8 b),(7,.slice (some ⟨1,0,none⟩) k c4),(8,.int .i64 (k:Int))],[(a,t),((wA .u8 c4 Y),(5,(0,0)))]⟩
structure wiG_c (_:wiA_c a t o l cp n b) (k c4:Nat) (Y:List Int):Prop where
  hY:Y=padL (bL a o l) b (k)
  hYl:Y.length=k
  hk:k=n
  hc4:k≤c4
variable {k_4:wiG_c k_1 k c4 Y}
abbrev wiG (_:wiG_c k_1 k c4 Y):FS:=⟨false,30,[(0,.slice (some ⟨0,o,none⟩) l cp),(1,.int .i64 (n:Int)),(2,.int .u8 b),(7,.slice (some ⟨1,0,none⟩) k c4),(8,.int .i64 (k:Int))],[(a,t),((wA .u8 c4 Y),(5,(0,0)))]⟩
structure wiH_c (_:wiA_c a t o l cp n b) (k c4:Nat) (Y:List Int):Prop where
  hY:Y=padL (bL a o l) b (k+1)
  hYl:Y.length=k+1
  hk:k<n
  hc4:k+1≤c4
variable {k_5:wiH_c k_1 k c4 Y}
abbrev wiH (_:wiH_c k_1 k c4 Y):FS:=⟨false,30,[(0,.slice (some ⟨0,o,none⟩) l cp),(1,.int .i64 (n:Int)),(2,.int .u8 b),(7,.slice (some ⟨1,0,none⟩) (k+1) c4),(8,.int .i64 (k:Int))],[(a,t),((wA .u8 c4 Y),(5,(0,0)))]⟩
theorem wi3:wiA_R [1,1,0,1,0,0,0] (wiD k_1) .normal (fun z_=>z_=wiD k_1):=by
  have⟨ha,hl,hn⟩:=id k_1
  exact rn_ev (yty.enf tab0 1) wiA_h mixed _ none [some (.bool true)] [(5,(decide (0<(n:Int)))=true)] 0 (fun j M=>by kernel_rfl) (A1 (decide_eq_true (by omega)) A0) rfl
theorem wi4 (hlt:k<n):wiA_R [1,1,0,1,0,0,0] (wiE k_2) .normal (fun z_=>∃(k_3:wiF_c k_1 k c4 Y),z_=wiF k_3):=by
  have⟨ha,hl,hn⟩:=id k_1
  have⟨hY,hYl,hk,hc4⟩:=id k_2
  exact rn_ev (yty.enf tab0 1) wiA_h mixed _ none [some (.bool true)] [(5,(decide ((k:Int)<(n:Int)))=true)] 0 (fun j M=>by kernel_rfl) (A1 (decide_eq_true (by omega)) A0) ⟨⟨hY,hYl,by omega,hc4⟩,rfl⟩
theorem wi5 (hge:¬ k<n):wiA_R [1,1,0,1,0,0,0] (wiE k_2) (.exit 0) (fun z_=>∃(k_4:wiG_c k_1 k c4 Y),z_=wiG k_4):=by
  have⟨ha,hl,hn⟩:=id k_1
  have⟨hY,hYl,hk,hc4⟩:=id k_2
  exact rn_ev (yty.enf tab0 1) wiA_h mixed _ none [some (.bool false)] [(5,(decide ((k:Int)<(n:Int)))=false)] 0 (fun j M=>by kernel_rfl) (A1 (decide_eq_false (by omega)) A0) ⟨⟨hY,hYl,by omega,hc4⟩,rfl⟩
abbrev wiI (_:wiA_c a t o l cp n b):FS:=⟨false,30,[(0,.slice (some ⟨0,o,none⟩) l cp),(1,.int .i64 (n:Int)),(2,.int .u8 b),(7,.slice none 0 0),(8,.int .i64 0),(9,.int .u8 0)],[(a,t)]⟩
abbrev wiJ (_:wiF_c k_1 k c4 Y):FS:=⟨false,30,[(0,.slice (some ⟨0,o,none⟩) l cp),(1,.int .i64 (n:Int)),(2,.int .u8 b),(7,.slice (some ⟨1,0,none⟩) k c4),(8,.int .i64 (k:Int)),(9,.int .u8 0)],[(a,t),((wA .u8 c4 Y),(5,(0,0)))]⟩
theorem wi6:wiA_R [1,1,0,1,0,0,1,0,0,0] (wiD k_1) .normal (fun z_=>z_=wiI k_1):=rn_ev (yty.enf tab0 1) wiA_h mixed _ none [] [] 1 (fun j M=>by kernel_rfl) A0 rfl
theorem wi7:wiA_R [1,1,0,1,0,0,1,0,0,0] (wiF k_3) .normal (fun z_=>z_=wiJ k_3):=rn_ev (yty.enf tab0 1) wiA_h mixed _ none [] [] 1 (fun j M=>by kernel_rfl) A0 rfl
structure wiK_c (_:wiA_c a t o l cp n b) (x:Int):Prop where
  hx:x=(bL a o l).getD 0 0
variable {x:Int} {k_6:wiK_c k_1 x}
abbrev wiK (_:wiK_c k_1 x):FS:=⟨false,30,[(0,.slice (some ⟨0,o,none⟩) l cp),(1,.int .i64 (n:Int)),(2,.int .u8 b),(7,.slice none 0 0),(8,.int .i64 0),(9,.int .u8 x)],[(a,t)]⟩
structure wiL_c (_:wiF_c k_1 k c4 Y) (x:Int):Prop where
  hx:x=(bL a o l).getD k 0
variable {k_7:wiL_c k_3 x}
abbrev wiL (_:wiL_c k_3 x):FS:=⟨false,30,[(0,.slice (some ⟨0,o,none⟩) l cp),(1,.int .i64 (n:Int)),(2,.int .u8 b),(7,.slice (some ⟨1,0,none⟩) k c4),(8,.int .i64 (k:Int)),(9,.int .u8 x)],[(a,t),((wA .u8 c4 Y),(5,(0,0)))]⟩
theorem wi8a (h16:0<l):wiA_R [1,1,0,1,0,0,1,0,0,1,0] (wiI k_1) .normal (fun z_=>∃(k_6:wiK_c k_1 (iat a (o+0))),z_=wiK k_6):=by
  have⟨ha,hl,hn⟩:=id k_1
  exact rn_ev (yty.enf tab0 1) wiA_h mixed _ none [some (.bool true),some (.int .u8 (iat a (o+0)))] [(7,(decide (0<(l:Int)))=true),(4,((0:Int)≤0∧(0:Int)<(l:Int))),(0,((a[(o+Int.toNat 0*1)]? =some (.int .u8 (iat a (o+0))))∧(iat a (o+0))=(iat a (o+0))))] 1 (fun j M=>by kernel_rfl) (A1 (decide_eq_true (by omega)) (A1 (by(try simp only[Int.toNat_natCast,wA_size]);omega) (A1 ⟨(ha 0 h16).1,rfl⟩ A0))) ⟨⟨by rw[bL_at,if_pos h16]⟩,rfl⟩
theorem wi8b (h16:¬ 0<l):wiA_R [1,1,0,1,0,0,1,0,0,1,0] (wiI k_1) .normal (fun z_=>∃(k_6:wiK_c k_1 0),z_=wiK k_6):=by
  have⟨ha,hl,hn⟩:=id k_1
  exact rn_ev (yty.enf tab0 1) wiA_h mixed _ none [some (.bool false)] [(7,(decide (0<(l:Int)))=false)] 0 (fun j M=>by kernel_rfl) (A1 (decide_eq_false (by omega)) A0) ⟨⟨by rw[bL_at,if_neg h16]⟩,rfl⟩
theorem wi8:wiA_R [1,1,0,1,0,0,1,0,0,1,0] (wiI k_1) .normal (fun z_=>∃(x:Int) (k_6:wiK_c k_1 x),z_=wiK k_6):=by
  by_cases h16:0<l
  · exact(wi8a h16).mono fun _ ⟨k_6,e_⟩=>⟨_,k_6,e_⟩
  · exact(wi8b h16).mono fun _ ⟨k_6,e_⟩=>⟨_,k_6,e_⟩
theorem wi9a (h16:k<l):wiA_R [1,1,0,1,0,0,1,0,0,1,0] (wiJ k_3) .normal (fun z_=>∃(k_7:wiL_c k_3 (iat a (o+k))),z_=wiL k_7):=by
  have⟨ha,hl,hn⟩:=id k_1
  have⟨hY,hYl,hk,hc4⟩:=id k_3
  exact rn_ev (yty.enf tab0 1) wiA_h mixed _ none [some (.bool true),some (.int .u8 (iat a (o+k)))] [(7,(decide ((k:Int)<(l:Int)))=true),(4,((0:Int)≤(k:Int)∧((k:Int):Int)<(l:Int))),(0,((a[(o+Int.toNat (k:Int)*1)]? =some (.int .u8 (iat a (o+k))))∧(iat a (o+k))=(iat a (o+k))))] 1 (fun j M=>by kernel_rfl) (A1 (decide_eq_true (by omega)) (A1 (by(try simp only[Int.toNat_natCast,wA_size]);omega) (A1 ⟨(by rw[Int.toNat_natCast,Nat.mul_one];exact(ha k h16).1),rfl⟩ A0))) ⟨⟨by rw[bL_at,if_pos h16]⟩,rfl⟩
theorem wi9b (h16:¬ k<l):wiA_R [1,1,0,1,0,0,1,0,0,1,0] (wiJ k_3) .normal (fun z_=>∃(k_7:wiL_c k_3 0),z_=wiL k_7):=by
  have⟨ha,hl,hn⟩:=id k_1
  have⟨hY,hYl,hk,hc4⟩:=id k_3
  exact rn_ev (yty.enf tab0 1) wiA_h mixed _ none [some (.bool false)] [(7,(decide ((k:Int)<(l:Int)))=false)] 0 (fun j M=>by kernel_rfl) (A1 (decide_eq_false (by omega)) A0) ⟨⟨by rw[bL_at,if_neg h16]⟩,rfl⟩
theorem wi9:wiA_R [1,1,0,1,0,0,1,0,0,1,0] (wiJ k_3) .normal (fun z_=>∃(x:Int) (k_7:wiL_c k_3 x),z_=wiL k_7):=by
  by_cases h16:k<l
  · exact(wi9a h16).mono fun _ ⟨k_7,e_⟩=>⟨_,k_7,e_⟩
  · exact(wi9b h16).mono fun _ ⟨k_7,e_⟩=>⟨_,k_7,e_⟩
theorem wic:wiA_R [1,1,0,1,0,0,1,0,0,1,1] (wiK k_6) .normal (fun z_=>∃(k1:Nat) (k_5:wiH_c k_1 0 k1 ([(bits .xor .u8 x b)])),z_=wiH k_5):=by
  have⟨ha,hl,hn⟩:=id k_1
  have⟨hx⟩:=id k_6
  refine rn_reg (some (true,1)) (by kernel_rfl) fun j c0 ch0=> ?_
  refine rl_appN (yty.enf tab0 1) apB apB.ht 5 [] [] 4 [(a,t),((wA .u8 1 [(bits .xor .u8 x b)]),(5,(0,0)))] 2 ([(bits .xor .u8 x b)]) (.slice (some ⟨1,0,none⟩) 1 1) (some 28) (by kernel_rfl) A0 (src_wA (i:=1) rfl rfl (Nat.le_refl 1)) (by simp) (by simp) fun n1 k1 c1_ e1_ hn1 hk1=> ?_
  try simp only[zL] at hn1
  obtain rfl:n1=1:=hn1
  exact rl_end (E:=(yty.enf tab0 1)) _ [] [] 1 (fun M=>by kernel_rfl) A0 ⟨k1,⟨by rw[hx];rfl,rfl,by omega,by omega⟩,rfl⟩
theorem wid:wiA_R [1,1,0,1,0,0,1,0,0,1,1] (wiL k_7) .normal (fun z_=>∃(k1:Nat) (k_5:wiH_c k_1 k k1 (Y ++ [(bits .xor .u8 x b)])),z_=wiH k_5):=by
  have⟨ha,hl,hn⟩:=id k_1
  have⟨hY,hYl,hk,hc4⟩:=id k_3
  have⟨hx⟩:=id k_7
  refine rn_reg (some (false,2)) (by kernel_rfl) fun j c0 ch0=> ?_
  refine rl_app (yty.enf tab0 1) apB apB.ht 5 [] [] 4 [(a,t),((wA .u8 c4 Y),(5,(0,0))),((wA .u8 1 [(bits .xor .u8 x b)]),(5,(0,0)))] 1 k c4 Y ([(bits .xor .u8 x b)]) (.slice (some ⟨2,0,none⟩) 1 1) (some 28) (by kernel_rfl) A0 (by omega) (by omega) (src_wA (i:=2) rfl rfl (Nat.le_refl 1)) (by simp only[List.length_cons,List.length_nil];omega) fun n1 k1 M1 c1_ e1_ hn1 hk1=> ?_
  try simp only[zL] at hn1
  obtain rfl:n1=k+1:=by omega
  exact rl_end (E:=(yty.enf tab0 1)) _ [] [] 1 (fun M=>by kernel_rfl) A0 ⟨k1,⟨by rw[hx,hY,padL_step],by simp only[List.length_append,List.length_cons,List.length_nil];omega,hk.2,by omega⟩,rfl⟩
theorem wif:wiA_R [1,1,0,1,0,0,1,0,0] (wiD k_1) .normal (fun z_=>∃(x1:Int) (k12:Nat) (k_5:wiH_c k_1 0 k12 ([(bits .xor .u8 x1 b)])),z_=wiH k_5):=by
  refine rn_seq (w:= [1,1,0,1,0,0,1,0,0]) (by kernel_rfl) wi6 ?_
  rintro _ rfl
  refine rn_seq (w:= [1,1,0,1,0,0,1,0,0,1]) (by kernel_rfl) wi8 ?_
  rintro _ ⟨x1,k_6,rfl⟩
  exact(wic).mono fun _ ⟨k12,k_5,e_⟩=>⟨x1,k12,k_5,e_⟩
theorem wie:wiA_R [1,1,0,1,0,0,1,0] (wiD k_1) .normal (fun z_=>∃(x1:Int) (k12:Nat) (k_5:wiH_c k_1 0 k12 ([(bits .xor .u8 x1 b)])),z_=wiH k_5):=rn_block (k:=1) (w:= [1,1,0,1,0,0,1,0]) (by kernel_rfl) wif
theorem wih:wiA_R [1,1,0,1,0,0,1,0,0] (wiF k_3) .normal (fun z_=>∃(x1:Int) (k12:Nat) (k_5:wiH_c k_1 k k12 (Y ++ [(bits .xor .u8 x1 b)])),z_=wiH k_5):=by
  refine rn_seq (w:= [1,1,0,1,0,0,1,0,0]) (by kernel_rfl) wi7 ?_
  rintro _ rfl
  refine rn_seq (w:= [1,1,0,1,0,0,1,0,0,1]) (by kernel_rfl) wi9 ?_
  rintro _ ⟨x1,k_7,rfl⟩
  exact(wid).mono fun _ ⟨k12,k_5,e_⟩=>⟨x1,k12,k_5,e_⟩
theorem wig:wiA_R [1,1,0,1,0,0,1,0] (wiF k_3) .normal (fun z_=>∃(x1:Int) (k12:Nat) (k_5:wiH_c k_1 k k12 (Y ++ [(bits .xor .u8 x1 b)])),z_=wiH k_5):=rn_block (k:=1) (w:= [1,1,0,1,0,0,1,0]) (by kernel_rfl) wih
theorem wii:wiA_R [1,1,0,1,0,0,1,1] (wiH k_5) .normal (fun z_=>∃(k_2:wiE_c k_1 (k+1) c4 Y),z_=wiE k_2):=by
  have⟨ha,hl,hn⟩:=id k_1
  have⟨hY,hYl,hk,hc4⟩:=id k_5
  exact rn_ev (yty.enf tab0 1) wiA_h mixed _ none [some (.int .i64 ((k+1:Nat):Int))] [(3,(IntKind.i64.wrap ((k:Int)+1))=((k+1:Nat):Int))] 1 (fun j M=>by kernel_rfl) (A1 (wi64 (by omega)) A0) ⟨⟨hY,hYl,by omega,hc4⟩,rfl⟩
theorem wij:wiA_R [1,1,0,1,0,0] (wiD k_1) .normal (fun z_=>∃(x11:Int) (k121:Nat) (k_2:wiE_c k_1 (0+1) k121 ([(bits .xor .u8 x11 b)])),z_=wiE k_2):=by
  refine rn_seq (w:= [1,1,0,1,0,0]) (by kernel_rfl) wi3 ?_
  rintro _ rfl
  refine rn_seq (w:= [1,1,0,1,0,0,1]) (by kernel_rfl) wie ?_
  rintro _ ⟨x11,k121,k_5,rfl⟩
  exact(wii).mono fun _ ⟨k_2,e_⟩=>⟨x11,k121,k_2,e_⟩
theorem wik (hlt:k<n):wiA_R [1,1,0,1,0,0] (wiE k_2) .normal (fun z_=>∃(x11:Int) (k121:Nat) (k_2:wiE_c k_1 (k+1) k121 (Y ++ [(bits .xor .u8 x11 b)])),z_=wiE k_2):=by
  refine rn_seq (w:= [1,1,0,1,0,0]) (by kernel_rfl) (wi4 hlt) ?_
  rintro _ ⟨k_3,rfl⟩
  refine rn_seq (w:= [1,1,0,1,0,0,1]) (by kernel_rfl) wig ?_
  rintro _ ⟨x11,k121,k_5,rfl⟩
  exact(wii).mono fun _ ⟨k_2,e_⟩=>⟨x11,k121,k_2,e_⟩
theorem wil:wiA_R [1,1,0,1] (wiD k_1) .normal (fun z_=>∃(k c4:Nat) (Y:List Int) (k_4:wiG_c k_1 k c4 Y),z_=wiG k_4):=by
  refine rn_loop (k:=0) (w:= [1,1,0,1]) (by kernel_rfl) (fun n_ z_=>(n_=n - 0∧z_=wiD k_1)∨∃(k c4:Nat) (Y:List Int) (k_2:wiE_c k_1 k c4 Y),n_=n - k∧z_=wiE k_2) _ (.inl ⟨rfl,rfl⟩) ?_
  rintro n_ _ (⟨hn_,rfl⟩|⟨k,c4,Y,k_2,hn_,rfl⟩)
  · have ⟨ha, hl, hn⟩ := k_1
    have hlt:0<n:=by omega
    exact wij.x fun _ ⟨x11_,k121_,k_2,e_⟩=> .inl ⟨rfl,n - (0+1),by omega,.inr ⟨_,_,_,k_2,rfl,e_⟩⟩
  · have ⟨ha, hl, hn⟩ := k_1
    have⟨hY,hYl,hk,hc4⟩:=k_2
    by_cases hlt:k<n
    · exact(wik hlt).x fun _ ⟨x11_,k121_,k_2,e_⟩=> .inl ⟨rfl,n - (k+1),by omega,.inr ⟨_,_,_,k_2,rfl,e_⟩⟩
    · exact(rn_seqx (w:= [1,1,0,1,0,0]) (by kernel_rfl) (wi5 hlt) (by simp)).x fun _ ⟨k_4,e_⟩=> .inr ⟨rfl,⟨k,c4,Y,k_4,e_⟩⟩
theorem wim:wiA_R [1,1,0] (wiC k_1) .normal (fun z_=>∃(k1 c41:Nat) (Y1:List Int) (k_4:wiG_c k_1 k1 c41 Y1),z_=wiG k_4):=by
  refine rn_seq (w:= [1,1,0]) (by kernel_rfl) wi2 ?_
  rintro _ rfl
  exact wil
abbrev wiM (_:wiG_c k_1 k c4 Y):FS:=⟨false,30,[(6,.slice (some ⟨1,0,none⟩) k c4)],[(a,t),((wA .u8 c4 Y),(5,(0,0)))]⟩
theorem win:wiA_R [1,1,1] (wiG k_4) .ret (fun z_=>z_=wiM k_4):=rn_ev (yty.enf tab0 1) wiA_h mixed _ none [] [] 2 (fun j M=>by kernel_rfl) A0 rfl
theorem wiu':wiA_R [] (wiA k_1) .ret (fun z_=>∃(k12 c412:Nat) (Y12:List Int) (k_4:wiG_c k_1 k12 c412 Y12),z_=wiM k_4):=by
  refine rn_seq (w:= []) (by kernel_rfl) wi0 ?_
  rintro _ rfl
  refine rn_seq (w:= [1]) (by kernel_rfl) wi1 ?_
  rintro _ rfl
  refine rn_seq (w:= [1,1]) (by kernel_rfl) wim ?_
  rintro _ ⟨k12,c412,Y12,k_4,rfl⟩
  exact(win).mono fun _ e_=>⟨k12,c412,Y12,k_4,e_⟩
abbrev wiA_s (a:Array Value) (t:Tq) (o l cp n:Nat) (b:Int) (j:Nat→Value):List Value:=([.slice (some ⟨0,o,none⟩) l cp,.int .i64 (n:Int),.int .u8 b] ++ (JU 27))
abbrev wiA_m (a:Array Value) (t:Tq) (o l cp n:Nat) (b:Int):List Mb:= [(a,t)]
abbrev wiM_s (a:Array Value) (t:Tq) (o l cp n:Nat) (b:Int) (k c4:Nat) (Y:List Int) (j:Nat→Value):List Value:=(J j 0 6 ++ ([.slice (some ⟨1,0,none⟩) k c4] ++ (J j 7 23)))
abbrev wiM_m (a:Array Value) (t:Tq) (o l cp n:Nat) (b:Int) (k c4:Nat) (Y:List Int):List Mb:= [(a,t),((wA .u8 c4 Y),(5,(0,0)))]
theorem wiu (a:Array Value) (t:Tq) (o l cp n:Nat) (b:Int) (j:Nat→Value) (ha:bytesAt a o l) (hl:l≤1000000000) (hn:1≤n∧n≤1000000000)  :Runs Tryd.prog (cAt [] (bdy Tryd.f37)) ⟨wiA_s a t o l cp n b j,wiA_m a t o l cp n b,c0,ch0⟩ (fun e s=>e= .ret∧∃(k12:Nat) (c412:Nat) (Y12:List Int),∃j c ch,(Y12=padL (bL a o l) b (k12))∧(Y12.length=k12)∧(k12=n)∧(k12≤c412)∧s=⟨wiM_s a t o l cp n b k12 c412 Y12 j,wiM_m a t o l cp n b k12 c412 Y12,c,ch⟩) 1:=by
  refine(Rn.old (wiu' (k_1:=(⟨ha,hl,hn⟩:wiA_c a t o l cp n b))) j (by kernel_rfl)).mono ?_
  rintro e s ⟨rfl,_,⟨k12,c412,Y12,k_4,rfl⟩,j,c,ch,rfl⟩
  have⟨x_hY,x_hYl,x_hk,x_hc4⟩:=k_4
  exact⟨rfl,k12,c412,Y12,j,c,ch,x_hY,x_hYl,x_hk,x_hc4,by kernel_rfl⟩
theorem With_c (a:Array Value) (t:Tq) (o l cp n:Nat) (b:Int) (ha:bytesAt a o l) (hl:l≤1000000000) (hn:1≤n∧n≤1000000000):MakesA Tryd.prog 37 [(a,t)] [.slice (some ⟨0,o,none⟩) l cp,.int .i64 (n:Int),.int .u8 b] .u8 n (padL (bL a o l) b n) 5:=by
  refine makesA_runs (fk:=1) Tryd.func37 (c:=bdy Tryd.f37) (by kernel_rfl) ⟨rfl,by decide⟩ (args:= [.slice (some ⟨0,o,none⟩) l cp,.int .i64 (n:Int),.int .u8 b]) rfl (r:=6) (by kernel_rfl) (wiu a t o l cp n b (fun _=>undef) ha hl hn) ?_
  rintro e s ⟨rfl,hh⟩
  obtain⟨k,c4,Y,j,c,ch,hY,hYl,hk,hc4,rfl⟩:=hh
  subst hk
  subst hY
  exact⟨rfl,1,c4,by decide,by rw[padL_len];exact hc4,rfl,rfl⟩
theorem hmac2_pad (K N:List Int):hmac2 K N=sh2 (padL (key2 K) 92 64 ++ sh2 (padL (key2 K) 54 64 ++ N)):=by
  unfold hmac2 hm2
  rw[padL_mask,padL_mask]
end Go.Proofs.YtcfnjcacdmkgbaaDoor

set_option linter.unusedSimpArgs false
set_option linter.unusedVariables false
/-! What one step of the expansion sums. -/
namespace Go.Proofs.YtcfnjcacdmkgbaaDoor
open Go.RowKit Go.Ev
variable {c0:Prop} {ch0:List (Option Value)}
def nb0A_h (i:Nat):Hn:=⟨0,[],[],[],[]⟩
abbrev nb0A_R (w:List Nat) (S:FS) (e:Exit) (K:FS→Prop):Prop:=Rn Tryd.prog (cAt w (bdy Tryd.f52)) S e K 0
structure nb0A_c (b1 b2:Option Addr) (l1 c1 l2 c2:Nat) (N1 N2:List Int) (x:Int):Prop where
  hu1:SrcOk .u8 [] (.slice b1 l1 c1) N1
  hn1:N1.length=l1
  hu2:SrcOk .u8 [] (.slice b2 l2 c2) N2
  hn2:N2.length=l2
  hl1:l1≤1000000000
  hl2:l2≤1000000000
variable {b1 b2:Option Addr} {l1 c1 l2 c2:Nat} {N1 N2:List Int} {x:Int} {k_1:nb0A_c b1 b2 l1 c1 l2 c2 N1 N2 x}
abbrev nb0A (_:nb0A_c b1 b2 l1 c1 l2 c2 N1 N2 x):FS:=⟨true,25,[(0,.slice b1 l1 c1),(1,.slice b2 l2 c2),(2,.int .u8 x)],[]⟩
abbrev nb0B (_:nb0A_c b1 b2 l1 c1 l2 c2 N1 N2 x):FS:=⟨false,25,[(0,.slice b1 l1 c1),(1,.slice b2 l2 c2),(2,.int .u8 x)],[]⟩
theorem nb00:nb0A_R [0] (nb0A k_1) .normal (fun z_=>z_=nb0B k_1):=rn_ev (yty.en tab0) nb0A_h mixed _ none [] [] 1 (fun j M=>by kernel_rfl) A0 rfl
abbrev nb0C (_:nb0A_c b1 b2 l1 c1 l2 c2 N1 N2 x):FS:=⟨false,25,[(0,.slice b1 l1 c1),(1,.slice b2 l2 c2),(2,.int .u8 x),(7,.slice (some ⟨0,0,none⟩) 0 (l1+l2+1))],[((wA .u8 (l1+l2+1) []),(5,(0,0)))]⟩
theorem nb01:nb0A_R [1,0] (nb0B k_1) .normal (fun z_=>z_=nb0C k_1):=by
  have⟨hu1,hn1,hu2,hn2,hl1,hl2⟩:=id k_1
  exact rn_ev (yty.en tab0) nb0A_h mixed (⟨false,25,[(0,.slice b1 l1 c1),(1,.slice b2 l2 c2),(2,.int .u8 x),(7,.slice (some ⟨0,0,none⟩) 0 (l1+l2+1))],[((madeCells (#[.int .u8 0]) ((l1+l2+1)*1)),(5,(0,0)))]⟩) none [some (.int .i64 ((l1+l2:Nat):Int)),some (.int .i64 ((l1+l2+1:Nat):Int))] [(9,(IntKind.i64.wrap ((l1:Int)+(l2:Int)))=((l1+l2:Nat):Int)),(1,(IntKind.i64.wrap (((l1+l2:Nat):Int)+1))=((l1+l2+1:Nat):Int)),(0,((0:Int)=0∧0≤((l1+l2+1:Nat):Int)∧1*(l1+l2+1)≤281474976710656∧(l1+l2+1)≤9223372036854775807))] 1 (fun j M=>by kernel_rfl) (A1 (wi64 (by omega)) (A1 (wi64 (by omega)) (A1 ⟨rfl,by omega,by omega,by omega⟩ A0))) (by
    delta nb0C
    rw[made_wA]
    try kernel_rfl)
abbrev nb0D (_:nb0A_c b1 b2 l1 c1 l2 c2 N1 N2 x):FS:=⟨false,25,[(1,.slice b2 l2 c2),(2,.int .u8 x),(7,.slice (some ⟨0,0,none⟩) l1 (l1+l2+1))],[((wA .u8 (l1+l2+1) N1),(5,(0,0)))]⟩
theorem nb02:nb0A_R [1,1,0] (nb0C k_1) .normal (fun z_=>z_=nb0D k_1):=by
  have⟨hu1,hn1,hu2,hn2,hl1,hl2⟩:=id k_1
  refine rn_reg none (by kernel_rfl) fun j c0 ch0=> ?_
  refine rl_appR (yty.en tab0) apB apB.ht 2 [] [] 2 [((wA .u8 (l1+l2+1) []),(5,(0,0)))] 0 0 (l1+l2+1) ([]:List Int) N1 (.slice b1 l1 c1) (some 17) (by kernel_rfl) A0 rfl (by simp only[List.length_nil];omega) (SrcOk.app (x:= [_]) hu1) fun n1 c1_ e1_ hn1=> ?_
  try simp only[zL] at hn1
  obtain rfl:n1=l1:=by omega
  exact rl_end (E:=(yty.en tab0)) _ [] [] 1 (fun M=>by kernel_rfl) A0 rfl
abbrev nb0E (_:nb0A_c b1 b2 l1 c1 l2 c2 N1 N2 x):FS:=⟨false,25,[(2,.int .u8 x),(7,.slice (some ⟨0,0,none⟩) (l1+l2) (l1+l2+1))],[((wA .u8 (l1+l2+1) (N1 ++ N2)),(5,(0,0)))]⟩
theorem nb03:nb0A_R [1,1,1,0] (nb0D k_1) .normal (fun z_=>z_=nb0E k_1):=by
  have⟨hu1,hn1,hu2,hn2,hl1,hl2⟩:=id k_1
  refine rn_reg none (by kernel_rfl) fun j c0 ch0=> ?_
  refine rl_appR (yty.en tab0) apB apB.ht 2 [] [] 2 [((wA .u8 (l1+l2+1) N1),(5,(0,0)))] 0 l1 (l1+l2+1) N1 N2 (.slice b2 l2 c2) (some 20) (by kernel_rfl) A0 hn1.symm (by omega) (SrcOk.app (x:= [_]) hu2) fun n1 c1_ e1_ hn1=> ?_
  try simp only[zL] at hn1
  obtain rfl:n1=l1+l2:=by omega
  exact rl_end (E:=(yty.en tab0)) _ [] [] 1 (fun M=>by kernel_rfl) A0 rfl
abbrev nb0F (_:nb0A_c b1 b2 l1 c1 l2 c2 N1 N2 x):FS:=⟨false,25,[(6,.slice (some ⟨0,0,none⟩) (l1+l2+1) (l1+l2+1))],[((wA .u8 (l1+l2+1) (N1 ++ N2 ++ [x])),(5,(0,0)))]⟩
theorem nb04:nb0A_R [1,1,1,1,0] (nb0E k_1) .normal (fun z_=>z_=nb0F k_1):=by
  have⟨hu1,hn1,hu2,hn2,hl1,hl2⟩:=id k_1
  refine rn_reg (some (false,1)) (by kernel_rfl) fun j c0 ch0=> ?_
  refine rl_appR (yty.en tab0) apB apB.ht 3 [] [] 2 [((wA .u8 (l1+l2+1) (N1 ++ N2)),(5,(0,0))),((wA .u8 1 [x]),(5,(0,0)))] 0 (l1+l2) (l1+l2+1) (N1 ++ N2) ([x]) (.slice (some ⟨1,0,none⟩) 1 1) (some 24) (by kernel_rfl) A0 (by rw[List.length_append];omega) (by simp only[List.length_append,List.length_cons,List.length_nil];omega) (src_wA (i:=1) rfl rfl (Nat.le_refl 1)) fun n1 c1_ e1_ hn1=> ?_
  try simp only[zL] at hn1
  obtain rfl:n1=l1+l2+1:=by omega
  exact rl_end (E:=(yty.en tab0)) _ [] [] 1 (fun M=>by kernel_rfl) A0 rfl
theorem nb05:nb0A_R [1,1,1,1,1] (nb0F k_1) .ret (fun z_=>z_=nb0F k_1):=rn_ev (yty.en tab0) nb0A_h mixed _ none [] [] 0 (fun j M=>by kernel_rfl) A0 rfl
theorem nb0u':nb0A_R [] (nb0A k_1) .ret (fun z_=>z_=nb0F k_1):=by
  refine rn_seq (w:= []) (by kernel_rfl) nb00 ?_
  rintro _ rfl
  refine rn_seq (w:= [1]) (by kernel_rfl) nb01 ?_
  rintro _ rfl
  refine rn_seq (w:= [1,1]) (by kernel_rfl) nb02 ?_
  rintro _ rfl
  refine rn_seq (w:= [1,1,1]) (by kernel_rfl) nb03 ?_
  rintro _ rfl
  refine rn_seq (w:= [1,1,1,1]) (by kernel_rfl) nb04 ?_
  rintro _ rfl
  exact nb05
abbrev nb0A_s (b1 b2:Option Addr) (l1 c1 l2 c2:Nat) (N1 N2:List Int) (x:Int) (j:Nat→Value):List Value:=([.slice b1 l1 c1,.slice b2 l2 c2,.int .u8 x] ++ (JU 22))
abbrev nb0A_m (b1 b2:Option Addr) (l1 c1 l2 c2:Nat) (N1 N2:List Int) (x:Int):List Mb:= []
abbrev nb0F_s (b1 b2:Option Addr) (l1 c1 l2 c2:Nat) (N1 N2:List Int) (x:Int) (j:Nat→Value):List Value:=(J j 0 6 ++ ([.slice (some ⟨0,0,none⟩) (l1+l2+1) (l1+l2+1)] ++ (J j 7 18)))
abbrev nb0F_m (b1 b2:Option Addr) (l1 c1 l2 c2:Nat) (N1 N2:List Int) (x:Int):List Mb:= [((wA .u8 (l1+l2+1) (N1 ++ N2 ++ [x])),(5,(0,0)))]
theorem nb0u (b1 b2:Option Addr) (l1 c1 l2 c2:Nat) (N1 N2:List Int) (x:Int) (j:Nat→Value) (hu1:SrcOk .u8 [] (.slice b1 l1 c1) N1) (hn1:N1.length=l1) (hu2:SrcOk .u8 [] (.slice b2 l2 c2) N2) (hn2:N2.length=l2) (hl1:l1≤1000000000) (hl2:l2≤1000000000)  :Runs Tryd.prog (cAt [] (bdy Tryd.f52)) ⟨nb0A_s b1 b2 l1 c1 l2 c2 N1 N2 x j,nb0A_m b1 b2 l1 c1 l2 c2 N1 N2 x,c0,ch0⟩ (fun e s=>e= .ret∧∃j c ch,s=⟨nb0F_s b1 b2 l1 c1 l2 c2 N1 N2 x j,nb0F_m b1 b2 l1 c1 l2 c2 N1 N2 x,c,ch⟩) 0:=by
  refine(Rn.old (nb0u' (k_1:=(⟨hu1,hn1,hu2,hn2,hl1,hl2⟩:nb0A_c b1 b2 l1 c1 l2 c2 N1 N2 x))) j (by kernel_rfl)).mono ?_
  rintro e s ⟨rfl,_,rfl,j,c,ch,rfl⟩
  exact⟨rfl,j,c,ch,by kernel_rfl⟩
theorem Num0_c (b1 b2:Option Addr) (l1 c1 l2 c2:Nat) (N1 N2:List Int) (x:Int) (hu1:SrcOk .u8 [] (.slice b1 l1 c1) N1) (hn1:N1.length=l1) (hu2:SrcOk .u8 [] (.slice b2 l2 c2) N2) (hn2:N2.length=l2) (hl1:l1≤1000000000) (hl2:l2≤1000000000) (hk1:okp 0 (.slice b1 l1 c1)=true) (hk2:okp 0 (.slice b2 l2 c2)=true):Makes Tryd.prog 52 [] [.slice b1 l1 c1,.slice b2 l2 c2,.int .u8 x] (wA .u8 (l1+l2+1) (N1 ++ N2 ++ [x])) 5 (l1+l2+1) (l1+l2+1):=by
  refine makes_runs (fk:=0) Tryd.func52 (c:=bdy Tryd.f52) (by kernel_rfl) ⟨rfl,by decide⟩ (args:= [.slice b1 l1 c1,.slice b2 l2 c2,.int .u8 x]) (List.all_eq_true.2 fun y hy=> ?_) (r:=6) (by kernel_rfl) (nb0u b1 b2 l1 c1 l2 c2 N1 N2 x (fun _=>undef) hu1 hn1 hu2 hn2 hl1 hl2) ?_
  · simp only [List.mem_cons, List.not_mem_nil, or_false] at hy
    rcases hy with rfl|rfl|rfl
    · exact hk1
    · exact hk2
    · rfl
  · rintro e s ⟨rfl, hh⟩
    obtain⟨j,c,ch,rfl⟩:=hh
    exact⟨rfl,0,by decide,rfl,rfl⟩
def nb1A_h (i:Nat):Hn:=⟨0,[],[],[],[]⟩
abbrev nb1A_R (w:List Nat) (S:FS) (e:Exit) (K:FS→Prop):Prop:=Rn Tryd.prog (cAt w (bdy Tryd.f52)) S e K 1
structure nb1A_c (a0:Array Value) (t0:Tq) (b1 b2:Option Addr) (l1 c1 l2 c2:Nat) (N1 N2:List Int) (x:Int):Prop where
  hu1:SrcOk .u8 [(a0,t0)] (.slice b1 l1 c1) N1
  hn1:N1.length=l1
  hu2:SrcOk .u8 [(a0,t0)] (.slice b2 l2 c2) N2
  hn2:N2.length=l2
  hl1:l1≤1000000000
  hl2:l2≤1000000000
variable {a0:Array Value} {t0:Tq} {k_2:nb1A_c a0 t0 b1 b2 l1 c1 l2 c2 N1 N2 x}
abbrev nb1A (_:nb1A_c a0 t0 b1 b2 l1 c1 l2 c2 N1 N2 x):FS:=⟨true,25,[(0,.slice b1 l1 c1),(1,.slice b2 l2 c2),(2,.int .u8 x)],[(a0,t0)]⟩
abbrev nb1B (_:nb1A_c a0 t0 b1 b2 l1 c1 l2 c2 N1 N2 x):FS:=⟨false,25,[(0,.slice b1 l1 c1),(1,.slice b2 l2 c2),(2,.int .u8 x)],[(a0,t0)]⟩
theorem nb10:nb1A_R [0] (nb1A k_2) .normal (fun z_=>z_=nb1B k_2):=rn_ev (yty.enf tab0 1) nb1A_h mixed _ none [] [] 1 (fun j M=>by kernel_rfl) A0 rfl
abbrev nb1C (_:nb1A_c a0 t0 b1 b2 l1 c1 l2 c2 N1 N2 x):FS:=⟨false,25,[(0,.slice b1 l1 c1),(1,.slice b2 l2 c2),(2,.int .u8 x),(7,.slice (some ⟨1,0,none⟩) 0 (l1+l2+1))],[(a0,t0),((wA .u8 (l1+l2+1) []),(5,(0,0)))]⟩
theorem nb11:nb1A_R [1,0] (nb1B k_2) .normal (fun z_=>z_=nb1C k_2):=by
  have⟨hu1,hn1,hu2,hn2,hl1,hl2⟩:=id k_2
  exact rn_ev (yty.enf tab0 1) nb1A_h mixed (⟨false,25,[(0,.slice b1 l1 c1),(1,.slice b2 l2 c2),(2,.int .u8 x),(7,.slice (some ⟨1,0,none⟩) 0 (l1+l2+1))],[(a0,t0),((madeCells (#[.int .u8 0]) ((l1+l2+1)*1)),(5,(0,0)))]⟩) none [some (.int .i64 ((l1+l2:Nat):Int)),some (.int .i64 ((l1+l2+1:Nat):Int))] [(9,(IntKind.i64.wrap ((l1:Int)+(l2:Int)))=((l1+l2:Nat):Int)),(1,(IntKind.i64.wrap (((l1+l2:Nat):Int)+1))=((l1+l2+1:Nat):Int)),(0,((0:Int)=0∧0≤((l1+l2+1:Nat):Int)∧1*(l1+l2+1)≤281474976710656∧(l1+l2+1)≤9223372036854775807))] 1 (fun j M=>by kernel_rfl) (A1 (wi64 (by omega)) (A1 (wi64 (by omega)) (A1 ⟨rfl,by omega,by omega,by omega⟩ A0))) (by
    delta nb1C
    rw[made_wA]
    try kernel_rfl)
abbrev nb1D (_:nb1A_c a0 t0 b1 b2 l1 c1 l2 c2 N1 N2 x):FS:=⟨false,25,[(1,.slice b2 l2 c2),(2,.int .u8 x),(7,.slice (some ⟨1,0,none⟩) l1 (l1+l2+1))],[(a0,t0),((wA .u8 (l1+l2+1) N1),(5,(0,0)))]⟩
theorem nb12:nb1A_R [1,1,0] (nb1C k_2) .normal (fun z_=>z_=nb1D k_2):=by
  have⟨hu1,hn1,hu2,hn2,hl1,hl2⟩:=id k_2
  refine rn_reg none (by kernel_rfl) fun j c0 ch0=> ?_
  refine rl_appR (yty.enf tab0 1) apB apB.ht 2 [] [] 2 [(a0,t0),((wA .u8 (l1+l2+1) []),(5,(0,0)))] 1 0 (l1+l2+1) ([]:List Int) N1 (.slice b1 l1 c1) (some 17) (by kernel_rfl) A0 rfl (by simp only[List.length_nil];omega) (SrcOk.app (x:= [_]) hu1) fun n1 c1_ e1_ hn1=> ?_
  try simp only[zL] at hn1
  obtain rfl:n1=l1:=by omega
  exact rl_end (E:=(yty.enf tab0 1)) _ [] [] 1 (fun M=>by kernel_rfl) A0 rfl
abbrev nb1E (_:nb1A_c a0 t0 b1 b2 l1 c1 l2 c2 N1 N2 x):FS:=⟨false,25,[(2,.int .u8 x),(7,.slice (some ⟨1,0,none⟩) (l1+l2) (l1+l2+1))],[(a0,t0),((wA .u8 (l1+l2+1) (N1 ++ N2)),(5,(0,0)))]⟩
theorem nb13:nb1A_R [1,1,1,0] (nb1D k_2) .normal (fun z_=>z_=nb1E k_2):=by
  have⟨hu1,hn1,hu2,hn2,hl1,hl2⟩:=id k_2
  refine rn_reg none (by kernel_rfl) fun j c0 ch0=> ?_
  refine rl_appR (yty.enf tab0 1) apB apB.ht 2 [] [] 2 [(a0,t0),((wA .u8 (l1+l2+1) N1),(5,(0,0)))] 1 l1 (l1+l2+1) N1 N2 (.slice b2 l2 c2) (some 20) (by kernel_rfl) A0 hn1.symm (by omega) (SrcOk.app (x:= [_]) hu2) fun n1 c1_ e1_ hn1=> ?_
  try simp only[zL] at hn1
  obtain rfl:n1=l1+l2:=by omega
  exact rl_end (E:=(yty.enf tab0 1)) _ [] [] 1 (fun M=>by kernel_rfl) A0 rfl
abbrev nb1F (_:nb1A_c a0 t0 b1 b2 l1 c1 l2 c2 N1 N2 x):FS:=⟨false,25,[(6,.slice (some ⟨1,0,none⟩) (l1+l2+1) (l1+l2+1))],[(a0,t0),((wA .u8 (l1+l2+1) (N1 ++ N2 ++ [x])),(5,(0,0)))]⟩
theorem nb14:nb1A_R [1,1,1,1,0] (nb1E k_2) .normal (fun z_=>z_=nb1F k_2):=by
  have⟨hu1,hn1,hu2,hn2,hl1,hl2⟩:=id k_2
  refine rn_reg (some (false,2)) (by kernel_rfl) fun j c0 ch0=> ?_
  refine rl_appR (yty.enf tab0 1) apB apB.ht 3 [] [] 2 [(a0,t0),((wA .u8 (l1+l2+1) (N1 ++ N2)),(5,(0,0))),((wA .u8 1 [x]),(5,(0,0)))] 1 (l1+l2) (l1+l2+1) (N1 ++ N2) ([x]) (.slice (some ⟨2,0,none⟩) 1 1) (some 24) (by kernel_rfl) A0 (by rw[List.length_append];omega) (by simp only[List.length_append,List.length_cons,List.length_nil];omega) (src_wA (i:=2) rfl rfl (Nat.le_refl 1)) fun n1 c1_ e1_ hn1=> ?_
  try simp only[zL] at hn1
  obtain rfl:n1=l1+l2+1:=by omega
  exact rl_end (E:=(yty.enf tab0 1)) _ [] [] 1 (fun M=>by kernel_rfl) A0 rfl
theorem nb15:nb1A_R [1,1,1,1,1] (nb1F k_2) .ret (fun z_=>z_=nb1F k_2):=rn_ev (yty.enf tab0 1) nb1A_h mixed _ none [] [] 0 (fun j M=>by kernel_rfl) A0 rfl
theorem nb1u':nb1A_R [] (nb1A k_2) .ret (fun z_=>z_=nb1F k_2):=by
  refine rn_seq (w:= []) (by kernel_rfl) nb10 ?_
  rintro _ rfl
  refine rn_seq (w:= [1]) (by kernel_rfl) nb11 ?_
  rintro _ rfl
  refine rn_seq (w:= [1,1]) (by kernel_rfl) nb12 ?_
  rintro _ rfl
  refine rn_seq (w:= [1,1,1]) (by kernel_rfl) nb13 ?_
  rintro _ rfl
  refine rn_seq (w:= [1,1,1,1]) (by kernel_rfl) nb14 ?_
  rintro _ rfl
  exact nb15
abbrev nb1A_s (a0:Array Value) (t0:Tq) (b1 b2:Option Addr) (l1 c1 l2 c2:Nat) (N1 N2:List Int) (x:Int) (j:Nat→Value):List Value:=([.slice b1 l1 c1,.slice b2 l2 c2,.int .u8 x] ++ (JU 22))
abbrev nb1A_m (a0:Array Value) (t0:Tq) (b1 b2:Option Addr) (l1 c1 l2 c2:Nat) (N1 N2:List Int) (x:Int):List Mb:= [(a0,t0)]
abbrev nb1F_s (a0:Array Value) (t0:Tq) (b1 b2:Option Addr) (l1 c1 l2 c2:Nat) (N1 N2:List Int) (x:Int) (j:Nat→Value):List Value:=(J j 0 6 ++ ([.slice (some ⟨1,0,none⟩) (l1+l2+1) (l1+l2+1)] ++ (J j 7 18)))
abbrev nb1F_m (a0:Array Value) (t0:Tq) (b1 b2:Option Addr) (l1 c1 l2 c2:Nat) (N1 N2:List Int) (x:Int):List Mb:= [(a0,t0),((wA .u8 (l1+l2+1) (N1 ++ N2 ++ [x])),(5,(0,0)))]
theorem nb1u (a0:Array Value) (t0:Tq) (b1 b2:Option Addr) (l1 c1 l2 c2:Nat) (N1 N2:List Int) (x:Int) (j:Nat→Value) (hu1:SrcOk .u8 [(a0,t0)] (.slice b1 l1 c1) N1) (hn1:N1.length=l1) (hu2:SrcOk .u8 [(a0,t0)] (.slice b2 l2 c2) N2) (hn2:N2.length=l2) (hl1:l1≤1000000000) (hl2:l2≤1000000000)  :Runs Tryd.prog (cAt [] (bdy Tryd.f52)) ⟨nb1A_s a0 t0 b1 b2 l1 c1 l2 c2 N1 N2 x j,nb1A_m a0 t0 b1 b2 l1 c1 l2 c2 N1 N2 x,c0,ch0⟩ (fun e s=>e= .ret∧∃j c ch,s=⟨nb1F_s a0 t0 b1 b2 l1 c1 l2 c2 N1 N2 x j,nb1F_m a0 t0 b1 b2 l1 c1 l2 c2 N1 N2 x,c,ch⟩) 1:=by
  refine(Rn.old (nb1u' (k_2:=(⟨hu1,hn1,hu2,hn2,hl1,hl2⟩:nb1A_c a0 t0 b1 b2 l1 c1 l2 c2 N1 N2 x))) j (by kernel_rfl)).mono ?_
  rintro e s ⟨rfl,_,rfl,j,c,ch,rfl⟩
  exact⟨rfl,j,c,ch,by kernel_rfl⟩
theorem Num1_c (a0:Array Value) (t0:Tq) (b1 b2:Option Addr) (l1 c1 l2 c2:Nat) (N1 N2:List Int) (x:Int) (hu1:SrcOk .u8 [(a0,t0)] (.slice b1 l1 c1) N1) (hn1:N1.length=l1) (hu2:SrcOk .u8 [(a0,t0)] (.slice b2 l2 c2) N2) (hn2:N2.length=l2) (hl1:l1≤1000000000) (hl2:l2≤1000000000) (hk1:okp 1 (.slice b1 l1 c1)=true) (hk2:okp 1 (.slice b2 l2 c2)=true):Makes Tryd.prog 52 [(a0,t0)] [.slice b1 l1 c1,.slice b2 l2 c2,.int .u8 x] (wA .u8 (l1+l2+1) (N1 ++ N2 ++ [x])) 5 (l1+l2+1) (l1+l2+1):=by
  refine makes_runs (fk:=1) Tryd.func52 (c:=bdy Tryd.f52) (by kernel_rfl) ⟨rfl,by decide⟩ (args:= [.slice b1 l1 c1,.slice b2 l2 c2,.int .u8 x]) (List.all_eq_true.2 fun y hy=> ?_) (r:=6) (by kernel_rfl) (nb1u a0 t0 b1 b2 l1 c1 l2 c2 N1 N2 x (fun _=>undef) hu1 hn1 hu2 hn2 hl1 hl2) ?_
  · simp only [List.mem_cons, List.not_mem_nil, or_false] at hy
    rcases hy with rfl|rfl|rfl
    · exact hk1
    · exact hk2
    · rfl
  · rintro e s ⟨rfl, hh⟩
    obtain⟨j,c,ch,rfl⟩:=hh
    exact⟨rfl,1,by decide,rfl,rfl⟩
def nb2A_h (i:Nat):Hn:=⟨0,[],[],[],[]⟩
abbrev nb2A_R (w:List Nat) (S:FS) (e:Exit) (K:FS→Prop):Prop:=Rn Tryd.prog (cAt w (bdy Tryd.f52)) S e K 2
structure nb2A_c (a0:Array Value) (t0:Tq) (a1:Array Value) (t1:Tq) (b1 b2:Option Addr) (l1 c1 l2 c2:Nat) (N1 N2:List Int) (x:Int):Prop where
  hu1:SrcOk .u8 [(a0,t0),(a1,t1)] (.slice b1 l1 c1) N1
  hn1:N1.length=l1
  hu2:SrcOk .u8 [(a0,t0),(a1,t1)] (.slice b2 l2 c2) N2
  hn2:N2.length=l2
  hl1:l1≤1000000000
  hl2:l2≤1000000000
variable {a1:Array Value} {t1:Tq} {k_3:nb2A_c a0 t0 a1 t1 b1 b2 l1 c1 l2 c2 N1 N2 x}
abbrev nb2A (_:nb2A_c a0 t0 a1 t1 b1 b2 l1 c1 l2 c2 N1 N2 x):FS:=⟨true,25,[(0,.slice b1 l1 c1),(1,.slice b2 l2 c2),(2,.int .u8 x)],[(a0,t0),(a1,t1)]⟩
abbrev nb2B (_:nb2A_c a0 t0 a1 t1 b1 b2 l1 c1 l2 c2 N1 N2 x):FS:=⟨false,25,[(0,.slice b1 l1 c1),(1,.slice b2 l2 c2),(2,.int .u8 x)],[(a0,t0),(a1,t1)]⟩
theorem nb20:nb2A_R [0] (nb2A k_3) .normal (fun z_=>z_=nb2B k_3):=rn_ev (yty.enf tab0 2) nb2A_h mixed _ none [] [] 1 (fun j M=>by kernel_rfl) A0 rfl
abbrev nb2C (_:nb2A_c a0 t0 a1 t1 b1 b2 l1 c1 l2 c2 N1 N2 x):FS:=⟨false,25,[(0,.slice b1 l1 c1),(1,.slice b2 l2 c2),(2,.int .u8 x),(7,.slice (some ⟨2,0,none⟩) 0 (l1+l2+1))],[(a0,t0),(a1,t1),((wA .u8 (l1+l2+1) []),(5,(0,0)))]⟩
theorem nb21:nb2A_R [1,0] (nb2B k_3) .normal (fun z_=>z_=nb2C k_3):=by
  have⟨hu1,hn1,hu2,hn2,hl1,hl2⟩:=id k_3
  exact rn_ev (yty.enf tab0 2) nb2A_h mixed (⟨false,25,[(0,.slice b1 l1 c1),(1,.slice b2 l2 c2),(2,.int .u8 x),(7,.slice (some ⟨2,0,none⟩) 0 (l1+l2+1))],[(a0,t0),(a1,t1),((madeCells (#[.int .u8 0]) ((l1+l2+1)*1)),(5,(0,0)))]⟩) none [some (.int .i64 ((l1+l2:Nat):Int)),some (.int .i64 ((l1+l2+1:Nat):Int))] [(9,(IntKind.i64.wrap ((l1:Int)+(l2:Int)))=((l1+l2:Nat):Int)),(1,(IntKind.i64.wrap (((l1+l2:Nat):Int)+1))=((l1+l2+1:Nat):Int)),(0,((0:Int)=0∧0≤((l1+l2+1:Nat):Int)∧1*(l1+l2+1)≤281474976710656∧(l1+l2+1)≤9223372036854775807))] 1 (fun j M=>by kernel_rfl) (A1 (wi64 (by omega)) (A1 (wi64 (by omega)) (A1 ⟨rfl,by omega,by omega,by omega⟩ A0))) (by
    delta nb2C
    rw[made_wA]
    try kernel_rfl)
abbrev nb2D (_:nb2A_c a0 t0 a1 t1 b1 b2 l1 c1 l2 c2 N1 N2 x):FS:=⟨false,25,[(1,.slice b2 l2 c2),(2,.int .u8 x),(7,.slice (some ⟨2,0,none⟩) l1 (l1+l2+1))],[(a0,t0),(a1,t1),((wA .u8 (l1+l2+1) N1),(5,(0,0)))]⟩
theorem nb22:nb2A_R [1,1,0] (nb2C k_3) .normal (fun z_=>z_=nb2D k_3):=by
  have⟨hu1,hn1,hu2,hn2,hl1,hl2⟩:=id k_3
  refine rn_reg none (by kernel_rfl) fun j c0 ch0=> ?_
  refine rl_appR (yty.enf tab0 2) apB apB.ht 2 [] [] 2 [(a0,t0),(a1,t1),((wA .u8 (l1+l2+1) []),(5,(0,0)))] 2 0 (l1+l2+1) ([]:List Int) N1 (.slice b1 l1 c1) (some 17) (by kernel_rfl) A0 rfl (by simp only[List.length_nil];omega) (SrcOk.app (x:= [_]) hu1) fun n1 c1_ e1_ hn1=> ?_
  try simp only[zL] at hn1
  obtain rfl:n1=l1:=by omega
  exact rl_end (E:=(yty.enf tab0 2)) _ [] [] 1 (fun M=>by kernel_rfl) A0 rfl
abbrev nb2E (_:nb2A_c a0 t0 a1 t1 b1 b2 l1 c1 l2 c2 N1 N2 x):FS:=⟨false,25,[(2,.int .u8 x),(7,.slice (some ⟨2,0,none⟩) (l1+l2) (l1+l2+1))],[(a0,t0),(a1,t1),((wA .u8 (l1+l2+1) (N1 ++ N2)),(5,(0,0)))]⟩
theorem nb23:nb2A_R [1,1,1,0] (nb2D k_3) .normal (fun z_=>z_=nb2E k_3):=by
  have⟨hu1,hn1,hu2,hn2,hl1,hl2⟩:=id k_3
  refine rn_reg none (by kernel_rfl) fun j c0 ch0=> ?_
  refine rl_appR (yty.enf tab0 2) apB apB.ht 2 [] [] 2 [(a0,t0),(a1,t1),((wA .u8 (l1+l2+1) N1),(5,(0,0)))] 2 l1 (l1+l2+1) N1 N2 (.slice b2 l2 c2) (some 20) (by kernel_rfl) A0 hn1.symm (by omega) (SrcOk.app (x:= [_]) hu2) fun n1 c1_ e1_ hn1=> ?_
  try simp only[zL] at hn1
  obtain rfl:n1=l1+l2:=by omega
  exact rl_end (E:=(yty.enf tab0 2)) _ [] [] 1 (fun M=>by kernel_rfl) A0 rfl
abbrev nb2F (_:nb2A_c a0 t0 a1 t1 b1 b2 l1 c1 l2 c2 N1 N2 x):FS:=⟨false,25,[(6,.slice (some ⟨2,0,none⟩) (l1+l2+1) (l1+l2+1))],[(a0,t0),(a1,t1),((wA .u8 (l1+l2+1) (N1 ++ N2 ++ [x])),(5,(0,0)))]⟩
theorem nb24:nb2A_R [1,1,1,1,0] (nb2E k_3) .normal (fun z_=>z_=nb2F k_3):=by
  have⟨hu1,hn1,hu2,hn2,hl1,hl2⟩:=id k_3
  refine rn_reg (some (false,3)) (by kernel_rfl) fun j c0 ch0=> ?_
  refine rl_appR (yty.enf tab0 2) apB apB.ht 3 [] [] 2 [(a0,t0),(a1,t1),((wA .u8 (l1+l2+1) (N1 ++ N2)),(5,(0,0))),((wA .u8 1 [x]),(5,(0,0)))] 2 (l1+l2) (l1+l2+1) (N1 ++ N2) ([x]) (.slice (some ⟨3,0,none⟩) 1 1) (some 24) (by kernel_rfl) A0 (by rw[List.length_append];omega) (by simp only[List.length_append,List.length_cons,List.length_nil];omega) (src_wA (i:=3) rfl rfl (Nat.le_refl 1)) fun n1 c1_ e1_ hn1=> ?_
  try simp only[zL] at hn1
  obtain rfl:n1=l1+l2+1:=by omega
  exact rl_end (E:=(yty.enf tab0 2)) _ [] [] 1 (fun M=>by kernel_rfl) A0 rfl
theorem nb25:nb2A_R [1,1,1,1,1] (nb2F k_3) .ret (fun z_=>z_=nb2F k_3):=rn_ev (yty.enf tab0 2) nb2A_h mixed _ none [] [] 0 (fun j M=>by kernel_rfl) A0 rfl
theorem nb2u':nb2A_R [] (nb2A k_3) .ret (fun z_=>z_=nb2F k_3):=by
  refine rn_seq (w:= []) (by kernel_rfl) nb20 ?_
  rintro _ rfl
  refine rn_seq (w:= [1]) (by kernel_rfl) nb21 ?_
  rintro _ rfl
  refine rn_seq (w:= [1,1]) (by kernel_rfl) nb22 ?_
  rintro _ rfl
  refine rn_seq (w:= [1,1,1]) (by kernel_rfl) nb23 ?_
  rintro _ rfl
  refine rn_seq (w:= [1,1,1,1]) (by kernel_rfl) nb24 ?_
  rintro _ rfl
  exact nb25
abbrev nb2A_s (a0:Array Value) (t0:Tq) (a1:Array Value) (t1:Tq) (b1 b2:Option Addr) (l1 c1 l2 c2:Nat) (N1 N2:List Int) (x:Int) (j:Nat→Value):List Value:=([.slice b1 l1 c1,.slice b2 l2 c2,.int .u8 x] ++ (JU 22))
abbrev nb2A_m (a0:Array Value) (t0:Tq) (a1:Array Value) (t1:Tq) (b1 b2:Option Addr) (l1 c1 l2 c2:Nat) (N1 N2:List Int) (x:Int):List Mb:= [(a0,t0),(a1,t1)]
abbrev nb2F_s (a0:Array Value) (t0:Tq) (a1:Array Value) (t1:Tq) (b1 b2:Option Addr) (l1 c1 l2 c2:Nat) (N1 N2:List Int) (x:Int) (j:Nat→Value):List Value:=(J j 0 6 ++ ([.slice (some ⟨2,0,none⟩) (l1+l2+1) (l1+l2+1)] ++ (J j 7 18)))
abbrev nb2F_m (a0:Array Value) (t0:Tq) (a1:Array Value) (t1:Tq) (b1 b2:Option Addr) (l1 c1 l2 c2:Nat) (N1 N2:List Int) (x:Int):List Mb:= [(a0,t0),(a1,t1),((wA .u8 (l1+l2+1) (N1 ++ N2 ++ [x])),(5,(0,0)))]
theorem nb2u (a0:Array Value) (t0:Tq) (a1:Array Value) (t1:Tq) (b1 b2:Option Addr) (l1 c1 l2 c2:Nat) (N1 N2:List Int) (x:Int) (j:Nat→Value) (hu1:SrcOk .u8 [(a0,t0),(a1,t1)] (.slice b1 l1 c1) N1) (hn1:N1.length=l1) (hu2:SrcOk .u8 [(a0,t0),(a1,t1)] (.slice b2 l2 c2) N2) (hn2:N2.length=l2) (hl1:l1≤1000000000) (hl2:l2≤1000000000)  :Runs Tryd.prog (cAt [] (bdy Tryd.f52)) ⟨nb2A_s a0 t0 a1 t1 b1 b2 l1 c1 l2 c2 N1 N2 x j,nb2A_m a0 t0 a1 t1 b1 b2 l1 c1 l2 c2 N1 N2 x,c0,ch0⟩ (fun e s=>e= .ret∧∃j c ch,s=⟨nb2F_s a0 t0 a1 t1 b1 b2 l1 c1 l2 c2 N1 N2 x j,nb2F_m a0 t0 a1 t1 b1 b2 l1 c1 l2 c2 N1 N2 x,c,ch⟩) 2:=by
  refine(Rn.old (nb2u' (k_3:=(⟨hu1,hn1,hu2,hn2,hl1,hl2⟩:nb2A_c a0 t0 a1 t1 b1 b2 l1 c1 l2 c2 N1 N2 x))) j (by kernel_rfl)).mono ?_
  rintro e s ⟨rfl,_,rfl,j,c,ch,rfl⟩
  exact⟨rfl,j,c,ch,by kernel_rfl⟩
theorem Num2_c (a0:Array Value) (t0:Tq) (a1:Array Value) (t1:Tq) (b1 b2:Option Addr) (l1 c1 l2 c2:Nat) (N1 N2:List Int) (x:Int) (hu1:SrcOk .u8 [(a0,t0),(a1,t1)] (.slice b1 l1 c1) N1) (hn1:N1.length=l1) (hu2:SrcOk .u8 [(a0,t0),(a1,t1)] (.slice b2 l2 c2) N2) (hn2:N2.length=l2) (hl1:l1≤1000000000) (hl2:l2≤1000000000) (hk1:okp 2 (.slice b1 l1 c1)=true) (hk2:okp 2 (.slice b2 l2 c2)=true):Makes Tryd.prog 52 [(a0,t0),(a1,t1)] [.slice b1 l1 c1,.slice b2 l2 c2,.int .u8 x] (wA .u8 (l1+l2+1) (N1 ++ N2 ++ [x])) 5 (l1+l2+1) (l1+l2+1):=by
  refine makes_runs (fk:=2) Tryd.func52 (c:=bdy Tryd.f52) (by kernel_rfl) ⟨rfl,by decide⟩ (args:= [.slice b1 l1 c1,.slice b2 l2 c2,.int .u8 x]) (List.all_eq_true.2 fun y hy=> ?_) (r:=6) (by kernel_rfl) (nb2u a0 t0 a1 t1 b1 b2 l1 c1 l2 c2 N1 N2 x (fun _=>undef) hu1 hn1 hu2 hn2 hl1 hl2) ?_
  · simp only [List.mem_cons, List.not_mem_nil, or_false] at hy
    rcases hy with rfl|rfl|rfl
    · exact hk1
    · exact hk2
    · rfl
  · rintro e s ⟨rfl, hh⟩
    obtain⟨j,c,ch,rfl⟩:=hh
    exact⟨rfl,2,by decide,rfl,rfl⟩
def mNum : Maker Tryd.prog where
  f:=52
  g := fun mem xs => match xs with
    | [.slice b1 l1 c1,.slice b2 l2 c2,.int .u8 x]=>some (wA .u8 (l1+l2+1) (bytesOf mem b1 l1 ++ bytesOf mem b2 l2 ++ [x]),5,l1+l2+1,l1+l2+1,(BytesOk mem b1 l1 c1∧BytesOk mem b2 l2 c2∧l1≤1000000000∧l2≤1000000000))
    |_=>none
  ok := fun mem xs cs t n k c e hc w β hw _ => by
    split at e
    · rename_i b1 l1 c1 b2 l2 c2 x
      simp only[Option.some.injEq,Prod.mk.injEq] at e
      obtain⟨rfl,rfl,rfl,rfl,rfl⟩:=e
      obtain⟨hA,hB,hl1,hl2⟩:=hc
      rcases hA with⟨rfl,rfl,rfl⟩|⟨i,o,src,st,rfl,hm,ha,hz,hlc⟩<;>rcases hB with⟨rfl,rfl,rfl⟩|⟨i2,o2,src2,st2,rfl,hm2,ha2,hz2,hlc2⟩
      · exact Num0_c none none 0 0 0 0 [] [] x src_nil rfl src_nil rfl hl1 hl2 rfl rfl w (fun _=>0) (fun q x hx=>by simp at hx) (fun q hq=>by omega)
      · have h := Num1_c src2 st2 none (some ⟨0, o2, none⟩) 0 0 l2 c2 [] (bL src2 o2 l2) x src_nil rfl (src_b rfl ha2 hz2) (bL_len ..) hl1 hl2 rfl rfl w (fun _ => β i2) (fun q x hx => by
            match q,hx with
            | 0, hx =>
              simp only[List.getElem?_cons_zero,Option.some.injEq] at hx
              subst hx
              exact hw i2 _ hm2
            |q+1,hx=>simp at hx) (fun q hq=>by omega)
        simp only[bytesOf,hm2]
        exact h
      · have h := Num1_c src st (some ⟨0, o, none⟩) none l1 c1 0 0 (bL src o l1) [] x (src_b rfl ha hz) (bL_len ..) src_nil rfl hl1 hl2 rfl rfl w (fun _ => β i) (fun q x hx => by
            match q,hx with
            | 0, hx =>
              simp only[List.getElem?_cons_zero,Option.some.injEq] at hx
              subst hx
              exact hw i _ hm
            |q+1,hx=>simp at hx) (fun q hq=>by omega)
        simp only[bytesOf,hm]
        exact h
      · have h := Num2_c src st src2 st2 (some ⟨0, o, none⟩) (some ⟨1, o2, none⟩) l1 c1 l2 c2 (bL src o l1) (bL src2 o2 l2) x (src_b rfl ha hz) (bL_len ..) (src_b rfl ha2 hz2) (bL_len ..) hl1 hl2 rfl rfl w (fun q => if q = 0 then β i else β i2) (fun q x hx => by
            match q,hx with
            | 0, hx =>
              simp only[List.getElem?_cons_zero,Option.some.injEq] at hx
              subst hx
              exact hw i _ hm
            | 1, hx =>
              simp only[List.getElem?_cons_succ,List.getElem?_cons_zero,Option.some.injEq] at hx
              subst hx
              exact hw i2 _ hm2
            |q+2,hx=>simp at hx) (fun q hq=>by omega)
        simp only[bytesOf,hm,hm2]
        exact h
    · cases e
  call:=call_of Tryd.func52 (by kernel_rfl) (by kernel_rfl)
end Go.Proofs.YtcfnjcacdmkgbaaDoor

set_option linter.unusedSimpArgs false
set_option linter.unusedVariables false
/-! Texts that are handed in, beside the two tables. -/
namespace Go.Proofs.YtcfnjcacdmkgbaaDoor
open Go.RowKit Go.Ev
variable {c0:Prop} {ch0:List (Option Value)}
theorem pick {W:World} {bp:Option Addr} {l cp:Nat} {N:List Int} {x0 x1:Mb} (h:(bp=none∧l=0∧cp=0∧N= [])∨∃(b o:Nat) (src:Array Value) (st:Tq),bp=some ⟨b,o,none⟩∧W.heap[b]? =some (.cells src st.1 st.2)∧l≤cp∧o+l≤src.size∧∀ i,i<l→src[o+i]? =some (.int .u8 (N.getD i 0))) (hb:∀ i,i<l→0≤N.getD i 0∧N.getD i 0<256) (hH:Has W (fun i=>i) [x0,x1]):
    ∃(a:Array Value) (t:Tq) (y:Nat),W.heap[y]? =some (.cells a t.1 t.2)∧∃ q:Nat→Option Addr,(∀(i:Nat) (mem:List Mb),mem[i]? =some (a,t)→BytesOk mem (q i) l cp)∧∀(i:Nat) (β:Nat→Nat),β i=y→rn β (.slice (q i) l cp)= .slice bp l cp:=by
  rcases h with⟨rfl,rfl,rfl,rfl⟩|⟨b,o,src,st,rfl,hh,hcp,hz,hc⟩
  · exact⟨x0.1,x0.2,0,hH 0 x0 rfl,fun _=>none,fun i mem _=> .inl ⟨rfl,rfl,rfl⟩,fun i β _=>rfl⟩
  · refine ⟨src, st, b, hh, fun i => some ⟨i, o, none⟩, fun i mem hm => .inr ⟨i, o, src, st, rfl, hm, fun j hj => ?_, hz, hcp⟩, fun i β hβ => by simp only [rn, hβ]⟩
    have e:iat src (o+j)=N.getD j 0:=by unfold iat;rw[hc j hj]
    rw[e]
    exact⟨hc j hj,hb j hj⟩
theorem has4 {W:World} {x0 x1:Mb} {b b':Nat} {src src':Array Value} {st st':Tq} (h:Has W (fun i=>i) [x0,x1]) (hh:W.heap[b]? =some (.cells src st.1 st.2)) (hh':W.heap[b']? =some (.cells src' st'.1 st'.2)):Has W (fun i=>if i=2 then b else if i=3 then b' else i) [x0,x1,(src,st),(src',st')]:=fun j x hx=>by
  match j,hx with
  |0,hx=>exact h 0 x hx
  |1,hx=>exact h 1 x hx
  | 2, hx =>
    simp only[List.getElem?_cons_succ,List.getElem?_cons_zero,Option.some.injEq] at hx
    subst hx;exact hh
  | 3, hx =>
    simp only[List.getElem?_cons_succ,List.getElem?_cons_zero,Option.some.injEq] at hx
    subst hx;exact hh'
  |j+4,hx=>simp at hx
end Go.Proofs.YtcfnjcacdmkgbaaDoor
