import Derived.Test.YtmpjlammofgicaaDoorZMNhtsMcA1
import Derived.Laws.Closers25b
import Derived.Test.YtmpjlammofgicaaDoorZMNhtsShK1
import Derived.Test.YtmpjlammofgicaaDoorZMNhtsEvW1
import Derived.Test.YtmpjlammofgicaaDoorZMNhtsSdS1
import Derived.Test.YtmpjlammofgicaaDoorZMNhtsByA1
set_option linter.unusedSimpArgs false
set_option linter.unusedVariables false
/-! mac: masked as a maker, HMAC of a block. -/
namespace Go.Proofs.YtmpjlammofgicaaDoor
open Go.RowKit Go.Ev
def BytesOk (mem:List Mb) (bp:Option Addr) (l cp:Nat):Prop:=(bp=none∧l=0∧cp=0)∨∃(i o:Nat) (src:Array Value) (st:Tq),bp=some ⟨i,o,none⟩∧mem[i]? =some (src,st)∧bytesAt src o l∧o+l≤src.size∧l≤cp
theorem BytesOk.len {mem:List Mb} {bp:Option Addr} {l cp:Nat} (h:BytesOk mem bp l cp):(bytesOf mem bp l).length=l:=by
  rcases h with⟨rfl,rfl,rfl⟩|⟨i,o,src,st,rfl,hm,_⟩
  · rfl
  · simp only[bytesOf,hm,bL_len]
theorem BytesOk.src {mem:List Mb} {bp:Option Addr} {l cp:Nat} (h:BytesOk mem bp l cp):SrcOk .u8 mem (.slice bp l cp) (bytesOf mem bp l):=by
  rcases h with⟨rfl,rfl,rfl⟩|⟨i,o,src,st,rfl,hm,hb,hz,hc⟩
  · exact src_nil
  · have := src_b (c := cp) hm hb hz
    simp only[bytesOf,hm]
    exact this
theorem BytesOk.bt {mem:List Mb} {bp:Option Addr} {l cp:Nat} (h:BytesOk mem bp l cp):∀ x ∈ bytesOf mem bp l,0≤x∧x<256:=by
  rcases h with⟨rfl,rfl,rfl⟩|⟨i,o,src,st,rfl,hm,hb,hz,hc⟩
  · intro x hx;simp[bytesOf] at hx
  · intro x hx
    simp only[bytesOf,hm] at hx
    obtain⟨j,hj,rfl⟩:=List.mem_map.1 hx
    exact(hb j (by simpa using hj)).2
theorem maskL_bt {N:List Int} {b:Int}:∀ x ∈ maskL N b,0≤x∧x<256:=fun x hx=>by
  obtain⟨y,_,rfl⟩:=List.mem_map.1 hx
  have h0:=bits_lo_u8 .xor y b
  have h1:=bits_hi_u8 .xor y b
  omega
theorem app_bt {L N:List Int} (h1:∀ x ∈ L,0≤x∧x<256) (h2:∀ x ∈ N,0≤x∧x<256):∀ x ∈ L ++ N,0≤x∧x<256:=fun x hx=>by
  rcases List.mem_append.1 hx with h|h
  · exact h1 x h
  · exact h2 x h
theorem bL_bt {a:Array Value} {o l:Nat} (h:bytesAt a o l):∀ x ∈ bL a o l,0≤x∧x<256:=fun x hx=>by
  obtain⟨j,hj,rfl⟩:=List.mem_map.1 hx
  exact(h j (by simpa using hj)).2
theorem Masks_some (K:Array Value) (tk:Tq) (n cp:Nat) (b:Int) (a:Array Value) (t:Tq) (p l c2:Nat) (hb:bytesAt K 0 n) (hn:n≤1000000000) (ha:bytesAt a p l) (hz:p+l≤a.size) (hl:l≤1000000000) (hlc:l≤c2):Makes Tryd.prog 36 [(K,tk),(a,t)] [.slice (some ⟨0,0,none⟩) n cp,.int .u8 b,.slice (some ⟨1,p,none⟩) l c2] (wA .u8 (n+l) (maskL (bL K 0 n) b ++ bL a p l)) 5 (n+l) (n+l):=by
  refine makes_runs (fk:=2) Tryd.func36 (c:=bdy Tryd.f36) (by kernel_rfl) ⟨rfl,by decide⟩ (args:= [.slice (some ⟨0,0,none⟩) n cp,.int .u8 b,.slice (some ⟨1,p,none⟩) l c2]) rfl (r:=6) (by kernel_rfl) (mssu K tk n cp b a t p l c2 (fun _=>undef) hb hn ha hz hl hlc) ?_
  rintro e s ⟨rfl,hh⟩
  obtain⟨k,Y,j,c,ch,_,_,_,_,rfl⟩:=hh
  exact⟨rfl,2,by decide,rfl,rfl⟩
theorem Masks_nil (K:Array Value) (tk:Tq) (n cp:Nat) (b:Int) (hb:bytesAt K 0 n) (hn:n≤1000000000):Makes Tryd.prog 36 [(K,tk)] [.slice (some ⟨0,0,none⟩) n cp,.int .u8 b,.slice none 0 0] (wA .u8 n (maskL (bL K 0 n) b)) 5 n n:=by
  refine makes_runs (fk:=1) Tryd.func36 (c:=bdy Tryd.f36) (by kernel_rfl) ⟨rfl,by decide⟩ (args:= [.slice (some ⟨0,0,none⟩) n cp,.int .u8 b,.slice none 0 0]) rfl (r:=6) (by kernel_rfl) (msnu K tk n cp b (fun _=>undef) hb hn) ?_
  rintro e s ⟨rfl,hh⟩
  obtain⟨k,Y,j,c,ch,_,_,_,_,rfl⟩:=hh
  exact⟨rfl,1,by decide,rfl,rfl⟩
def mMask : Maker Tryd.prog where
  f:=36
  g := fun mem xs => match xs with
    | [.slice (some ⟨i, 0, none⟩) n c1, .int .u8 b, .slice bp l c2] => (match mem[i]? with
      |some (cs,_)=>some (wA .u8 (n+l) (maskL (bL cs 0 n) b ++ bytesOf mem bp l),5,n+l,n+l,(bytesAt cs 0 n∧n≤1000000000∧BytesOk mem bp l c2∧l≤1000000000))
      |none=>none)
    |_=>none
  ok := fun mem xs cs t n k c e hc w β hw _ => by
    split at e
    · rename_i i n1 c1 b bp l c2
      split at e
      · rename_i Kc tk hK
        simp only[Option.some.injEq,Prod.mk.injEq] at e
        obtain⟨rfl,rfl,rfl,rfl,rfl⟩:=e
        obtain⟨hb,hn,hB,hl⟩:=hc
        rcases hB with⟨rfl,rfl,rfl⟩|⟨j,o,src,st,rfl,hm,ha,hz,hlc⟩
        · have h := Masks_nil Kc tk n1 c1 b hb hn w (fun _ => β i) (fun q x hx => by
            cases q with
            | zero =>
              simp only[List.getElem?_cons_zero,Option.some.injEq] at hx
              subst hx
              exact hw i _ hK
            |succ q=>simp at hx) (fun q hq=>by omega)
          simp only[bytesOf,List.append_nil,Nat.add_zero]
          exact h
        · have h := Masks_some Kc tk n1 c1 b src st o l c2 hb hn ha hz hl hlc w (fun q => if q = 0 then β i else β j) (fun q x hx => by
            match q,hx with
            | 0, hx =>
              simp only[List.getElem?_cons_zero,Option.some.injEq] at hx
              subst hx
              exact hw i _ hK
            | 1, hx =>
              simp only[List.getElem?_cons_succ,List.getElem?_cons_zero,Option.some.injEq] at hx
              subst hx
              exact hw j _ hm
            |q+2,hx=>simp at hx) (fun q hq=>by omega)
          simp only[bytesOf,hm]
          exact h
      · cases e
    · cases e
  call:=call_of Tryd.func36 (by kernel_rfl) (by kernel_rfl)
def hm2 (B:Array Value) (N:List Int):List Int:=sh2 (maskL (bL B 0 64) 92 ++ sh2 (maskL (bL B 0 64) 54 ++ N))
abbrev hmnA_s (g0 g1:Tq) (B:Array Value) (j:Nat→Value):List Value:=([.agg B,.slice none 0 0] ++ (JU 12))
abbrev hmnA_m (g0 g1:Tq) (B:Array Value):List Mb:= [((wA .u32 64 kL2),g0),((wA .u64 80 kL5),g1)]
abbrev hmnB_s (g0 g1:Tq) (B:Array Value) (j:Nat→Value):List Value:=([j 0,.slice none 0 0,.pointer (some ⟨2,0,none⟩),j 3,.pointer (some ⟨3,0,none⟩)] ++ (J j 5 9))
abbrev hmnB_m (g0 g1:Tq) (B:Array Value):List Mb:= [((wA .u32 64 kL2),g0),((wA .u64 80 kL5),g1),(B,(29,(0,0))),((wA .u8 32 []),(25,(0,0)))]
def hmn0p_h (i:Nat):Hn:=if i=2 then⟨4,[],[],[],[]⟩ else⟨0,[],[],[],[]⟩
def hmn0p_b (g0 g1:Tq) (B:Array Value) (j:Nat→Value):List Value:=([.agg B,.slice none 0 0,.pointer (some ⟨2,0,none⟩),undef,.pointer (some ⟨3,0,none⟩)] ++ (JU 9))
theorem hmn0p_0 (g0 g1:Tq) (B:Array Value) (j:Nat→Value):evC (yty.enm tabS8 [mMask] 2000002) hmn0p_h (cAt [0] (bdy Tryd.f33)) ⟨hmnA_s g0 g1 B j,hmnA_m g0 g1 B,True,[]⟩=some (.normal,⟨hmn0p_b g0 g1 B j,[((wA .u32 64 kL2),g0),((wA .u64 80 kL5),g1),(B,(29,(0,0))),((wA .u8 32 []),(25,(0,0)))],True,[]⟩):=by kernel_rfl
theorem hmn0 (g0 g1:Tq) (B:Array Value) (j:Nat→Value) (hB:bytesAt B 0 64) (hs:B.size=64) (h1:B.all (fun v=>v.oneCell')=true)  {c0:Prop} {ch0:List (Option Value)}:Runs Tryd.prog (cAt [0] (bdy Tryd.f33)) ⟨hmnA_s g0 g1 B j,hmnA_m g0 g1 B,c0,ch0⟩ (fun e s=>e= .normal∧∃(j:Nat→Value) (c:Prop) (ch:List (Option Value)),s=⟨hmnB_s g0 g1 B j,hmnB_m g0 g1 B,c,ch⟩) 2000002:=by
  refine(runs_ev mixed _ (hmn0p_0 g0 g1 B j) trivial).mono ?_
  rintro e s ⟨rfl,hs⟩
  refine⟨rfl,fun q=>s.tm.getD q undef,s.c,s.ch,?_⟩
  subst hs
  kernel_rfl
abbrev hmnC_s (g0 g1:Tq) (B:Array Value) (S:List Int) (j:Nat→Value):List Value:=([j 0,j 1,.pointer (some ⟨2,0,none⟩),j 3,.pointer (some ⟨3,0,none⟩),.pointer (some ⟨5,0,none⟩)] ++ (J j 6 8))
abbrev hmnC_m (g0 g1:Tq) (B:Array Value) (S:List Int):List Mb:= [((wA .u32 64 kL2),g0),((wA .u64 80 kL5),g1),(B,(29,(0,0))),((wA .u8 32 []),(25,(0,0))),((wA .u8 64 (maskL (bL B 0 64) 54 ++ ([]:List Int))),(5,(0,0))),((wA .u8 32 S),(25,(0,0)))]
def hmn1p_h (i:Nat):Hn:=if i=2 then⟨4,[],[],[],[]⟩ else⟨0,[],[],[],[]⟩
def hmn1p_b (g0 g1:Tq) (B:Array Value) (j:Nat→Value):List Value:=([j 0,.slice none 0 0,.pointer (some ⟨2,0,none⟩),j 3,.pointer (some ⟨3,0,none⟩),.pointer (some ⟨5,0,none⟩),.slice (some ⟨2,0,none⟩) 64 64,.slice none 0 0,.slice (some ⟨4,0,none⟩) 64 64,.agg (wA .u8 32 (sum2 (wA .u8 64 (maskL (bL B 0 64) 54 ++ ([]:List Int))) 0 64))] ++ (J j 10 4))
theorem hmn1p_0 (g0 g1:Tq) (B:Array Value) (j:Nat→Value):evC (yty.enm tabS8 [mMask] 2000002) hmn1p_h (cAt [1,0] (bdy Tryd.f33)) ⟨hmnB_s g0 g1 B j,hmnB_m g0 g1 B,True,[]⟩=some (.normal,⟨hmn1p_b g0 g1 B j,[((wA .u32 64 kL2),g0),((wA .u64 80 kL5),g1),(B,(29,(0,0))),((wA .u8 32 []),(25,(0,0))),((wA .u8 64 (maskL (bL B 0 64) 54 ++ ([]:List Int))),(5,(0,0))),((wA .u8 32 (sum2 (wA .u8 64 (maskL (bL B 0 64) 54 ++ ([]:List Int))) 0 64)),(25,(0,0)))],(((((True∧True)∧True)∧(bytesAt B 0 64∧64≤1000000000∧BytesOk [((wA .u32 64 kL2),g0),((wA .u64 80 kL5),g1),(B,(29,(0,0))),((wA .u8 32 []),(25,(0,0)))] none 0 0∧0≤1000000000))∧((wA .u32 64 kL2)=wA .u32 64 kL2∧(wA .u64 80 kL5)=wA .u64 80 kL5∧bytesAt (wA .u8 64 (maskL (bL B 0 64) 54 ++ ([]:List Int))) 0 64∧0+64≤(wA .u8 64 (maskL (bL B 0 64) 54 ++ ([]:List Int))).size∧64≤64∧64<1152921504606846976))∧((wA .u8 32 (sum2 (wA .u8 64 (maskL (bL B 0 64) 54 ++ ([]:List Int))) 0 64)).all (fun v=>v.oneCell')=true)),[]⟩):=by kernel_rfl
theorem hmn1 (g0 g1:Tq) (B:Array Value) (j:Nat→Value) (hB:bytesAt B 0 64) (hs:B.size=64) (h1:B.all (fun v=>v.oneCell')=true)  {c0:Prop} {ch0:List (Option Value)}:Runs Tryd.prog (cAt [1,0] (bdy Tryd.f33)) ⟨hmnB_s g0 g1 B j,hmnB_m g0 g1 B,c0,ch0⟩ (fun e s=>e= .normal∧∃(j:Nat→Value) (c:Prop) (ch:List (Option Value)),((sum2 (wA .u8 64 (maskL (bL B 0 64) 54 ++ ([]:List Int))) 0 64)=sh2 (maskL (bL B 0 64) 54 ++ ([]:List Int)))∧s=⟨hmnC_s g0 g1 B (sum2 (wA .u8 64 (maskL (bL B 0 64) 54 ++ ([]:List Int))) 0 64) j,hmnC_m g0 g1 B (sum2 (wA .u8 64 (maskL (bL B 0 64) 54 ++ ([]:List Int))) 0 64),c,ch⟩) 2000002:=by
  refine(runs_ev mixed _ (hmn1p_0 g0 g1 B j) ⟨⟨⟨⟨⟨trivial,trivial⟩,trivial⟩,⟨hB,by decide,(.inl ⟨rfl,rfl,rfl⟩),by decide⟩⟩,⟨rfl,rfl,bytes_wA (app_bt maskL_bt (fun x hx=>by simp at hx)),by rw[wA_size];omega,by omega,by omega⟩⟩,(wA_one _ _ _)⟩).mono ?_
  rintro e s ⟨rfl,hs⟩
  refine⟨rfl,fun q=>s.tm.getD q undef,s.c,s.ch,(sum2_sh (bytes_wA (app_bt maskL_bt (fun x hx=>by simp at hx))) (by omega)).trans (congrArg sh2 (bL_wA (by simp only[List.length_append,maskL_len,bL_len,List.length_nil]))),?_⟩
  subst hs
  kernel_rfl
abbrev hmnD_s (g0 g1:Tq) (B:Array Value) (S X:List Int) (j:Nat→Value):List Value:=(J j 0 4 ++ ([.pointer (some ⟨3,0,none⟩)] ++ (J j 5 9)))
abbrev hmnD_m (g0 g1:Tq) (B:Array Value) (S X:List Int):List Mb:= [((wA .u32 64 kL2),g0),((wA .u64 80 kL5),g1),(B,(29,(0,0))),((wA .u8 32 X),(25,(0,0))),((wA .u8 64 (maskL (bL B 0 64) 54 ++ ([]:List Int))),(5,(0,0))),((wA .u8 32 S),(25,(0,0))),((wA .u8 96 (maskL (bL B 0 64) 92 ++ bL (wA .u8 32 S) 0 32)),(5,(0,0)))]
def hmn2p_h (i:Nat):Hn:=if i=2 then⟨0,[(0,true),(1,true),(2,false),(3,false),(4,false)],[],[0,1,2,4,5],[]⟩ else⟨0,[],[],[],[]⟩
def hmn2p_b (g0 g1:Tq) (B:Array Value) (S:List Int) (j:Nat→Value):List Value:=([j 0,j 1,.pointer (some ⟨2,0,none⟩),j 3,.pointer (some ⟨3,0,none⟩),.pointer (some ⟨5,0,none⟩)] ++ (J j 6 4 ++ ([.slice (some ⟨2,0,none⟩) 64 64,.slice (some ⟨5,0,none⟩) 32 32,.slice (some ⟨6,0,none⟩) 96 96,.agg (wA .u8 32 (sum2 (wA .u8 96 (maskL (bL B 0 64) 92 ++ (bL (wA .u8 32 S) 0 32))) 0 96))])))
theorem hmn2p_0 (g0 g1:Tq) (B:Array Value) (S:List Int) (j:Nat→Value):evC (yty.enm tabS8 [mMask] 2000002) hmn2p_h (cAt [1,1] (bdy Tryd.f33)) ⟨hmnC_s g0 g1 B S j,hmnC_m g0 g1 B S,True,[]⟩=some (.ret,⟨hmn2p_b g0 g1 B S j,[((wA .u32 64 kL2),g0),((wA .u64 80 kL5),g1),(B,(29,(0,0))),((wA .u8 32 (sum2 (wA .u8 96 (maskL (bL B 0 64) 92 ++ (bL (wA .u8 32 S) 0 32))) 0 96)),(25,(0,0))),((wA .u8 64 (maskL (bL B 0 64) 54 ++ ([]:List Int))),(5,(0,0))),((wA .u8 32 S),(25,(0,0))),((wA .u8 96 (maskL (bL B 0 64) 92 ++ (bL (wA .u8 32 S) 0 32))),(5,(0,0)))],(((((True∧True)∧True)∧(bytesAt B 0 64∧64≤1000000000∧BytesOk [((wA .u32 64 kL2),g0),((wA .u64 80 kL5),g1),(B,(29,(0,0))),((wA .u8 32 []),(25,(0,0))),((wA .u8 64 (maskL (bL B 0 64) 54 ++ ([]:List Int))),(5,(0,0))),((wA .u8 32 S),(25,(0,0)))] (some ⟨5,0,none⟩) 32 32∧32≤1000000000))∧((wA .u32 64 kL2)=wA .u32 64 kL2∧(wA .u64 80 kL5)=wA .u64 80 kL5∧bytesAt (wA .u8 96 (maskL (bL B 0 64) 92 ++ (bL (wA .u8 32 S) 0 32))) 0 96∧0+96≤(wA .u8 96 (maskL (bL B 0 64) 92 ++ (bL (wA .u8 32 S) 0 32))).size∧96≤96∧96<1152921504606846976))∧((wA .u8 32 (sum2 (wA .u8 96 (maskL (bL B 0 64) 92 ++ (bL (wA .u8 32 S) 0 32))) 0 96)).all (fun v=>v.oneCell')=true)),[]⟩):=by kernel_rfl
theorem hmn2 (g0 g1:Tq) (B:Array Value) (S:List Int) (j:Nat→Value) (hB:bytesAt B 0 64) (hs:B.size=64) (h1:B.all (fun v=>v.oneCell')=true) (hS:S=sh2 (maskL (bL B 0 64) 54 ++ ([]:List Int)))  {c0:Prop} {ch0:List (Option Value)}:Runs Tryd.prog (cAt [1,1] (bdy Tryd.f33)) ⟨hmnC_s g0 g1 B S j,hmnC_m g0 g1 B S,c0,ch0⟩ (fun e s=>e= .ret∧∃(j:Nat→Value) (c:Prop) (ch:List (Option Value)),((sum2 (wA .u8 96 (maskL (bL B 0 64) 92 ++ bL (wA .u8 32 S) 0 32)) 0 96)=hm2 B ([]:List Int))∧s=⟨hmnD_s g0 g1 B S (sum2 (wA .u8 96 (maskL (bL B 0 64) 92 ++ bL (wA .u8 32 S) 0 32)) 0 96) j,hmnD_m g0 g1 B S (sum2 (wA .u8 96 (maskL (bL B 0 64) 92 ++ bL (wA .u8 32 S) 0 32)) 0 96),c,ch⟩) 2000002:=by
  refine(runs_ev mixed _ (hmn2p_0 g0 g1 B S j) ⟨⟨⟨⟨⟨trivial,trivial⟩,trivial⟩,⟨hB,by decide,.inr ⟨5,0,_,_,rfl,rfl,(by rw[hS];exact bytes_wA (sh2_bt _)),by rw[wA_size];decide,by decide⟩,by decide⟩⟩,⟨rfl,rfl,bytes_wA (app_bt maskL_bt (bL_bt (by rw[hS];exact bytes_wA (sh2_bt _)))),by rw[wA_size];decide,by decide,by decide⟩⟩,(wA_one _ _ _)⟩).mono ?_
  rintro e s ⟨rfl,hs⟩
  refine⟨rfl,fun q=>s.tm.getD q undef,s.c,s.ch,(sum2_sh (bytes_wA (app_bt maskL_bt (bL_bt (by rw[hS];exact bytes_wA (sh2_bt _))))) (by decide)).trans (by rw[bL_wA (by simp only[List.length_append,maskL_len,bL_len]),bL_wA (by rw[hS];exact sh2_len _),hS];rfl),?_⟩
  subst hs
  kernel_rfl
theorem hmnu (g0 g1:Tq) (B:Array Value) (j:Nat→Value) (hB:bytesAt B 0 64) (hs:B.size=64) (h1:B.all (fun v=>v.oneCell')=true)  {c0:Prop} {ch0:List (Option Value)}:Runs Tryd.prog (cAt [] (bdy Tryd.f33)) ⟨hmnA_s g0 g1 B j,hmnA_m g0 g1 B,c0,ch0⟩ (fun e s=>e= .ret∧∃(j:Nat→Value) (c:Prop) (ch:List (Option Value)),((sum2 (wA .u8 64 (maskL (bL B 0 64) 54 ++ ([]:List Int))) 0 64)=sh2 (maskL (bL B 0 64) 54 ++ ([]:List Int)))∧((sum2 (wA .u8 96 (maskL (bL B 0 64) 92 ++ bL (wA .u8 32 (sum2 (wA .u8 64 (maskL (bL B 0 64) 54 ++ ([]:List Int))) 0 64)) 0 32)) 0 96)=hm2 B ([]:List Int))∧s=⟨hmnD_s g0 g1 B (sum2 (wA .u8 64 (maskL (bL B 0 64) 54 ++ ([]:List Int))) 0 64) (sum2 (wA .u8 96 (maskL (bL B 0 64) 92 ++ bL (wA .u8 32 (sum2 (wA .u8 64 (maskL (bL B 0 64) 54 ++ ([]:List Int))) 0 64)) 0 32)) 0 96) j,hmnD_m g0 g1 B (sum2 (wA .u8 64 (maskL (bL B 0 64) 54 ++ ([]:List Int))) 0 64) (sum2 (wA .u8 96 (maskL (bL B 0 64) 92 ++ bL (wA .u8 32 (sum2 (wA .u8 64 (maskL (bL B 0 64) 54 ++ ([]:List Int))) 0 64)) 0 32)) 0 96),c,ch⟩) 2000002:=by
  rw[show(cAt [] (bdy Tryd.f33))=(.seq (cAt [0] (bdy Tryd.f33)) (.seq (cAt [1,0] (bdy Tryd.f33)) (cAt [1,1] (bdy Tryd.f33)))) from by kernel_rfl]
  refine runs_seq (hmn0 g0 g1 B j hB hs h1 ) (fun s hh=> ?_) (fun e s hne hh=>absurd hh.1 hne)
  obtain⟨_,j,c,ch,rfl⟩:=hh
  refine runs_seq (hmn1 g0 g1 B j hB hs h1 ) (fun s hh=> ?_) (fun e s hne hh=>absurd hh.1 hne)
  obtain⟨_,j,c,ch,f1_3,rfl⟩:=hh
  refine(hmn2 g0 g1 B (sum2 (wA .u8 64 (maskL (bL B 0 64) 54 ++ ([]:List Int))) 0 64) j hB hs h1 f1_3 ).mono ?_
  rintro e s ⟨rfl,j,c,ch,f2_4,rfl⟩
  exact⟨rfl,j,c,ch,f1_3,f2_4,rfl⟩
abbrev hmsA_s (g0 g1:Tq) (B:Array Value) (t:Tq) (a:Array Value) (o l cp:Nat) (j:Nat→Value):List Value:=([.agg B,.slice (some ⟨2,o,none⟩) l cp] ++ (JU 12))
abbrev hmsA_m (g0 g1:Tq) (B:Array Value) (t:Tq) (a:Array Value) (o l cp:Nat):List Mb:= [((wA .u32 64 kL2),g0),((wA .u64 80 kL5),g1),(a,t)]
abbrev hmsB_s (g0 g1:Tq) (B:Array Value) (t:Tq) (a:Array Value) (o l cp:Nat) (j:Nat→Value):List Value:=([j 0,.slice (some ⟨2,o,none⟩) l cp,.pointer (some ⟨3,0,none⟩),j 3,.pointer (some ⟨4,0,none⟩)] ++ (J j 5 9))
abbrev hmsB_m (g0 g1:Tq) (B:Array Value) (t:Tq) (a:Array Value) (o l cp:Nat):List Mb:= [((wA .u32 64 kL2),g0),((wA .u64 80 kL5),g1),(a,t),(B,(29,(0,0))),((wA .u8 32 []),(25,(0,0)))]
def hms0p_h (i:Nat):Hn:=if i=2 then⟨4,[],[],[],[]⟩ else⟨0,[],[],[],[]⟩
def hms0p_b (g0 g1:Tq) (B:Array Value) (t:Tq) (a:Array Value) (o l cp:Nat) (j:Nat→Value):List Value:=([.agg B,.slice (some ⟨2,o,none⟩) l cp,.pointer (some ⟨3,0,none⟩),undef,.pointer (some ⟨4,0,none⟩)] ++ (JU 9))
theorem hms0p_0 (g0 g1:Tq) (B:Array Value) (t:Tq) (a:Array Value) (o l cp:Nat) (j:Nat→Value):evC (yty.enm tabS8 [mMask] 2000003) hms0p_h (cAt [0] (bdy Tryd.f33)) ⟨hmsA_s g0 g1 B t a o l cp j,hmsA_m g0 g1 B t a o l cp,True,[]⟩=some (.normal,⟨hms0p_b g0 g1 B t a o l cp j,[((wA .u32 64 kL2),g0),((wA .u64 80 kL5),g1),(a,t),(B,(29,(0,0))),((wA .u8 32 []),(25,(0,0)))],True,[]⟩):=by kernel_rfl
theorem hms0 (g0 g1:Tq) (B:Array Value) (t:Tq) (a:Array Value) (o l cp:Nat) (j:Nat→Value) (hB:bytesAt B 0 64) (hs:B.size=64) (h1:B.all (fun v=>v.oneCell')=true) (hb:bytesAt a o l) (hz:o+l≤a.size) (hcp:l≤cp) (hl:l≤100000000)  {c0:Prop} {ch0:List (Option Value)}:Runs Tryd.prog (cAt [0] (bdy Tryd.f33)) ⟨hmsA_s g0 g1 B t a o l cp j,hmsA_m g0 g1 B t a o l cp,c0,ch0⟩ (fun e s=>e= .normal∧∃(j:Nat→Value) (c:Prop) (ch:List (Option Value)),s=⟨hmsB_s g0 g1 B t a o l cp j,hmsB_m g0 g1 B t a o l cp,c,ch⟩) 2000003:=by
  refine(runs_ev mixed _ (hms0p_0 g0 g1 B t a o l cp j) trivial).mono ?_
  rintro e s ⟨rfl,hs⟩
  refine⟨rfl,fun q=>s.tm.getD q undef,s.c,s.ch,?_⟩
  subst hs
  kernel_rfl
abbrev hmsC_s (g0 g1:Tq) (B:Array Value) (t:Tq) (a:Array Value) (o l cp:Nat) (S:List Int) (j:Nat→Value):List Value:=([j 0,j 1,.pointer (some ⟨3,0,none⟩),j 3,.pointer (some ⟨4,0,none⟩),.pointer (some ⟨6,0,none⟩)] ++ (J j 6 8))
abbrev hmsC_m (g0 g1:Tq) (B:Array Value) (t:Tq) (a:Array Value) (o l cp:Nat) (S:List Int):List Mb:= [((wA .u32 64 kL2),g0),((wA .u64 80 kL5),g1),(a,t),(B,(29,(0,0))),((wA .u8 32 []),(25,(0,0))),((wA .u8 (64+l) (maskL (bL B 0 64) 54 ++ (bL a o l))),(5,(0,0))),((wA .u8 32 S),(25,(0,0)))]
def hms1p_h (i:Nat):Hn:=if i=2 then⟨4,[],[],[],[]⟩ else⟨0,[],[],[],[]⟩
def hms1p_b (g0 g1:Tq) (B:Array Value) (t:Tq) (a:Array Value) (o l cp:Nat) (j:Nat→Value):List Value:=([j 0,.slice (some ⟨2,o,none⟩) l cp,.pointer (some ⟨3,0,none⟩),j 3,.pointer (some ⟨4,0,none⟩),.pointer (some ⟨6,0,none⟩),.slice (some ⟨3,0,none⟩) 64 64,.slice (some ⟨2,o,none⟩) l cp,.slice (some ⟨5,0,none⟩) (64+l) (64+l),.agg (wA .u8 32 (sum2 (wA .u8 (64+l) (maskL (bL B 0 64) 54 ++ (bL a o l))) 0 (64+l)))] ++ (J j 10 4))
theorem hms1p_0 (g0 g1:Tq) (B:Array Value) (t:Tq) (a:Array Value) (o l cp:Nat) (j:Nat→Value):evC (yty.enm tabS8 [mMask] 2000003) hms1p_h (cAt [1,0] (bdy Tryd.f33)) ⟨hmsB_s g0 g1 B t a o l cp j,hmsB_m g0 g1 B t a o l cp,True,[]⟩=some (.normal,⟨hms1p_b g0 g1 B t a o l cp j,[((wA .u32 64 kL2),g0),((wA .u64 80 kL5),g1),(a,t),(B,(29,(0,0))),((wA .u8 32 []),(25,(0,0))),((wA .u8 (64+l) (maskL (bL B 0 64) 54 ++ (bL a o l))),(5,(0,0))),((wA .u8 32 (sum2 (wA .u8 (64+l) (maskL (bL B 0 64) 54 ++ (bL a o l))) 0 (64+l))),(25,(0,0)))],(((((True∧True)∧True)∧(bytesAt B 0 64∧64≤1000000000∧BytesOk [((wA .u32 64 kL2),g0),((wA .u64 80 kL5),g1),(a,t),(B,(29,(0,0))),((wA .u8 32 []),(25,(0,0)))] (some ⟨2,o,none⟩) l cp∧l≤1000000000))∧((wA .u32 64 kL2)=wA .u32 64 kL2∧(wA .u64 80 kL5)=wA .u64 80 kL5∧bytesAt (wA .u8 (64+l) (maskL (bL B 0 64) 54 ++ (bL a o l))) 0 (64+l)∧0+(64+l)≤(wA .u8 (64+l) (maskL (bL B 0 64) 54 ++ (bL a o l))).size∧(64+l)≤(64+l)∧(64+l)<1152921504606846976))∧((wA .u8 32 (sum2 (wA .u8 (64+l) (maskL (bL B 0 64) 54 ++ (bL a o l))) 0 (64+l))).all (fun v=>v.oneCell')=true)),[]⟩):=by kernel_rfl
theorem hms1 (g0 g1:Tq) (B:Array Value) (t:Tq) (a:Array Value) (o l cp:Nat) (j:Nat→Value) (hB:bytesAt B 0 64) (hs:B.size=64) (h1:B.all (fun v=>v.oneCell')=true) (hb:bytesAt a o l) (hz:o+l≤a.size) (hcp:l≤cp) (hl:l≤100000000)  {c0:Prop} {ch0:List (Option Value)}:Runs Tryd.prog (cAt [1,0] (bdy Tryd.f33)) ⟨hmsB_s g0 g1 B t a o l cp j,hmsB_m g0 g1 B t a o l cp,c0,ch0⟩ (fun e s=>e= .normal∧∃(j:Nat→Value) (c:Prop) (ch:List (Option Value)),((sum2 (wA .u8 (64+l) (maskL (bL B 0 64) 54 ++ (bL a o l))) 0 (64+l))=sh2 (maskL (bL B 0 64) 54 ++ (bL a o l)))∧s=⟨hmsC_s g0 g1 B t a o l cp (sum2 (wA .u8 (64+l) (maskL (bL B 0 64) 54 ++ (bL a o l))) 0 (64+l)) j,hmsC_m g0 g1 B t a o l cp (sum2 (wA .u8 (64+l) (maskL (bL B 0 64) 54 ++ (bL a o l))) 0 (64+l)),c,ch⟩) 2000003:=by
  refine(runs_ev mixed _ (hms1p_0 g0 g1 B t a o l cp j) ⟨⟨⟨⟨⟨trivial,trivial⟩,trivial⟩,⟨hB,by decide,(.inr ⟨2,o,a,t,rfl,rfl,hb,hz,hcp⟩),by omega⟩⟩,⟨rfl,rfl,bytes_wA (app_bt maskL_bt (bL_bt hb)),by rw[wA_size];omega,by omega,by omega⟩⟩,(wA_one _ _ _)⟩).mono ?_
  rintro e s ⟨rfl,hs⟩
  refine⟨rfl,fun q=>s.tm.getD q undef,s.c,s.ch,(sum2_sh (bytes_wA (app_bt maskL_bt (bL_bt hb))) (by omega)).trans (congrArg sh2 (bL_wA (by simp only[List.length_append,maskL_len,bL_len,List.length_nil]))),?_⟩
  subst hs
  kernel_rfl
abbrev hmsD_s (g0 g1:Tq) (B:Array Value) (t:Tq) (a:Array Value) (o l cp:Nat) (S X:List Int) (j:Nat→Value):List Value:=(J j 0 4 ++ ([.pointer (some ⟨4,0,none⟩)] ++ (J j 5 9)))
abbrev hmsD_m (g0 g1:Tq) (B:Array Value) (t:Tq) (a:Array Value) (o l cp:Nat) (S X:List Int):List Mb:= [((wA .u32 64 kL2),g0),((wA .u64 80 kL5),g1),(a,t),(B,(29,(0,0))),((wA .u8 32 X),(25,(0,0))),((wA .u8 (64+l) (maskL (bL B 0 64) 54 ++ (bL a o l))),(5,(0,0))),((wA .u8 32 S),(25,(0,0))),((wA .u8 96 (maskL (bL B 0 64) 92 ++ bL (wA .u8 32 S) 0 32)),(5,(0,0)))]
def hms2p_h (i:Nat):Hn:=if i=2 then⟨0,[(0,true),(1,true),(2,false),(3,false),(4,false)],[],[0,1,2,3,5,6],[]⟩ else⟨0,[],[],[],[]⟩
def hms2p_b (g0 g1:Tq) (B:Array Value) (t:Tq) (a:Array Value) (o l cp:Nat) (S:List Int) (j:Nat→Value):List Value:=([j 0,j 1,.pointer (some ⟨3,0,none⟩),j 3,.pointer (some ⟨4,0,none⟩),.pointer (some ⟨6,0,none⟩)] ++ (J j 6 4 ++ ([.slice (some ⟨3,0,none⟩) 64 64,.slice (some ⟨6,0,none⟩) 32 32,.slice (some ⟨7,0,none⟩) 96 96,.agg (wA .u8 32 (sum2 (wA .u8 96 (maskL (bL B 0 64) 92 ++ (bL (wA .u8 32 S) 0 32))) 0 96))])))
theorem hms2p_0 (g0 g1:Tq) (B:Array Value) (t:Tq) (a:Array Value) (o l cp:Nat) (S:List Int) (j:Nat→Value):evC (yty.enm tabS8 [mMask] 2000003) hms2p_h (cAt [1,1] (bdy Tryd.f33)) ⟨hmsC_s g0 g1 B t a o l cp S j,hmsC_m g0 g1 B t a o l cp S,True,[]⟩=some (.ret,⟨hms2p_b g0 g1 B t a o l cp S j,[((wA .u32 64 kL2),g0),((wA .u64 80 kL5),g1),(a,t),(B,(29,(0,0))),((wA .u8 32 (sum2 (wA .u8 96 (maskL (bL B 0 64) 92 ++ (bL (wA .u8 32 S) 0 32))) 0 96)),(25,(0,0))),((wA .u8 (64+l) (maskL (bL B 0 64) 54 ++ (bL a o l))),(5,(0,0))),((wA .u8 32 S),(25,(0,0))),((wA .u8 96 (maskL (bL B 0 64) 92 ++ (bL (wA .u8 32 S) 0 32))),(5,(0,0)))],(((((True∧True)∧True)∧(bytesAt B 0 64∧64≤1000000000∧BytesOk [((wA .u32 64 kL2),g0),((wA .u64 80 kL5),g1),(a,t),(B,(29,(0,0))),((wA .u8 32 []),(25,(0,0))),((wA .u8 (64+l) (maskL (bL B 0 64) 54 ++ (bL a o l))),(5,(0,0))),((wA .u8 32 S),(25,(0,0)))] (some ⟨6,0,none⟩) 32 32∧32≤1000000000))∧((wA .u32 64 kL2)=wA .u32 64 kL2∧(wA .u64 80 kL5)=wA .u64 80 kL5∧bytesAt (wA .u8 96 (maskL (bL B 0 64) 92 ++ (bL (wA .u8 32 S) 0 32))) 0 96∧0+96≤(wA .u8 96 (maskL (bL B 0 64) 92 ++ (bL (wA .u8 32 S) 0 32))).size∧96≤96∧96<1152921504606846976))∧((wA .u8 32 (sum2 (wA .u8 96 (maskL (bL B 0 64) 92 ++ (bL (wA .u8 32 S) 0 32))) 0 96)).all (fun v=>v.oneCell')=true)),[]⟩):=by kernel_rfl
theorem hms2 (g0 g1:Tq) (B:Array Value) (t:Tq) (a:Array Value) (o l cp:Nat) (S:List Int) (j:Nat→Value) (hB:bytesAt B 0 64) (hs:B.size=64) (h1:B.all (fun v=>v.oneCell')=true) (hb:bytesAt a o l) (hz:o+l≤a.size) (hcp:l≤cp) (hl:l≤100000000) (hS:S=sh2 (maskL (bL B 0 64) 54 ++ (bL a o l)))  {c0:Prop} {ch0:List (Option Value)}:Runs Tryd.prog (cAt [1,1] (bdy Tryd.f33)) ⟨hmsC_s g0 g1 B t a o l cp S j,hmsC_m g0 g1 B t a o l cp S,c0,ch0⟩ (fun e s=>e= .ret∧∃(j:Nat→Value) (c:Prop) (ch:List (Option Value)),((sum2 (wA .u8 96 (maskL (bL B 0 64) 92 ++ bL (wA .u8 32 S) 0 32)) 0 96)=hm2 B (bL a o l))∧s=⟨hmsD_s g0 g1 B t a o l cp S (sum2 (wA .u8 96 (maskL (bL B 0 64) 92 ++ bL (wA .u8 32 S) 0 32)) 0 96) j,hmsD_m g0 g1 B t a o l cp S (sum2 (wA .u8 96 (maskL (bL B 0 64) 92 ++ bL (wA .u8 32 S) 0 32)) 0 96),c,ch⟩) 2000003:=by
  refine(runs_ev mixed _ (hms2p_0 g0 g1 B t a o l cp S j) ⟨⟨⟨⟨⟨trivial,trivial⟩,trivial⟩,⟨hB,by decide,.inr ⟨6,0,_,_,rfl,rfl,(by rw[hS];exact bytes_wA (sh2_bt _)),by rw[wA_size];decide,by decide⟩,by decide⟩⟩,⟨rfl,rfl,bytes_wA (app_bt maskL_bt (bL_bt (by rw[hS];exact bytes_wA (sh2_bt _)))),by rw[wA_size];decide,by decide,by decide⟩⟩,(wA_one _ _ _)⟩).mono ?_
  rintro e s ⟨rfl,hs⟩
  refine⟨rfl,fun q=>s.tm.getD q undef,s.c,s.ch,(sum2_sh (bytes_wA (app_bt maskL_bt (bL_bt (by rw[hS];exact bytes_wA (sh2_bt _))))) (by decide)).trans (by rw[bL_wA (by simp only[List.length_append,maskL_len,bL_len]),bL_wA (by rw[hS];exact sh2_len _),hS];rfl),?_⟩
  subst hs
  kernel_rfl
theorem hmsu (g0 g1:Tq) (B:Array Value) (t:Tq) (a:Array Value) (o l cp:Nat) (j:Nat→Value) (hB:bytesAt B 0 64) (hs:B.size=64) (h1:B.all (fun v=>v.oneCell')=true) (hb:bytesAt a o l) (hz:o+l≤a.size) (hcp:l≤cp) (hl:l≤100000000)  {c0:Prop} {ch0:List (Option Value)}:Runs Tryd.prog (cAt [] (bdy Tryd.f33)) ⟨hmsA_s g0 g1 B t a o l cp j,hmsA_m g0 g1 B t a o l cp,c0,ch0⟩ (fun e s=>e= .ret∧∃(j:Nat→Value) (c:Prop) (ch:List (Option Value)),((sum2 (wA .u8 (64+l) (maskL (bL B 0 64) 54 ++ (bL a o l))) 0 (64+l))=sh2 (maskL (bL B 0 64) 54 ++ (bL a o l)))∧((sum2 (wA .u8 96 (maskL (bL B 0 64) 92 ++ bL (wA .u8 32 (sum2 (wA .u8 (64+l) (maskL (bL B 0 64) 54 ++ (bL a o l))) 0 (64+l))) 0 32)) 0 96)=hm2 B (bL a o l))∧s=⟨hmsD_s g0 g1 B t a o l cp (sum2 (wA .u8 (64+l) (maskL (bL B 0 64) 54 ++ (bL a o l))) 0 (64+l)) (sum2 (wA .u8 96 (maskL (bL B 0 64) 92 ++ bL (wA .u8 32 (sum2 (wA .u8 (64+l) (maskL (bL B 0 64) 54 ++ (bL a o l))) 0 (64+l))) 0 32)) 0 96) j,hmsD_m g0 g1 B t a o l cp (sum2 (wA .u8 (64+l) (maskL (bL B 0 64) 54 ++ (bL a o l))) 0 (64+l)) (sum2 (wA .u8 96 (maskL (bL B 0 64) 92 ++ bL (wA .u8 32 (sum2 (wA .u8 (64+l) (maskL (bL B 0 64) 54 ++ (bL a o l))) 0 (64+l))) 0 32)) 0 96),c,ch⟩) 2000003:=by
  rw[show(cAt [] (bdy Tryd.f33))=(.seq (cAt [0] (bdy Tryd.f33)) (.seq (cAt [1,0] (bdy Tryd.f33)) (cAt [1,1] (bdy Tryd.f33)))) from by kernel_rfl]
  refine runs_seq (hms0 g0 g1 B t a o l cp j hB hs h1 hb hz hcp hl ) (fun s hh=> ?_) (fun e s hne hh=>absurd hh.1 hne)
  obtain⟨_,j,c,ch,rfl⟩:=hh
  refine runs_seq (hms1 g0 g1 B t a o l cp j hB hs h1 hb hz hcp hl ) (fun s hh=> ?_) (fun e s hne hh=>absurd hh.1 hne)
  obtain⟨_,j,c,ch,f1_7,rfl⟩:=hh
  refine(hms2 g0 g1 B t a o l cp (sum2 (wA .u8 (64+l) (maskL (bL B 0 64) 54 ++ (bL a o l))) 0 (64+l)) j hB hs h1 hb hz hcp hl f1_7 ).mono ?_
  rintro e s ⟨rfl,j,c,ch,f2_8,rfl⟩
  exact⟨rfl,j,c,ch,f1_7,f2_8,rfl⟩
end Go.Proofs.YtmpjlammofgicaaDoor

set_option linter.unusedSimpArgs false
set_option linter.unusedVariables false
/-! mac: entries over what is handed in. -/
namespace Go.Proofs.YtmpjlammofgicaaDoor
open Go.RowKit Go.Ev
theorem BytesOk.move {mem:List Mb} {bp:Option Addr} {l cp:Nat} {z:Mb} (h:BytesOk mem bp l cp) (h0:mem[0]? =some z):∃(y:Mb) (j:Nat) (q:Nat→Option Addr),mem[j]? =some y∧(∀(M:List Mb) (k:Nat),M[k]? =some y→BytesOk M (q k) l cp∧bytesOf M (q k) l=bytesOf mem bp l)∧∀(β β':Nat→Nat) (k:Nat),β' k=β j→rn β' (.slice (q k) l cp)=rn β (.slice bp l cp):=by
  rcases h with⟨rfl,rfl,rfl⟩|⟨i,o,src,st,rfl,hm,hb,hz,hc⟩
  · exact⟨z,0,fun _=>none,h0,fun M k _=>⟨.inl ⟨rfl,rfl,rfl⟩,rfl⟩,fun β β' k _=>rfl⟩
  · refine ⟨(src, st), i, fun k => some ⟨k, o, none⟩, hm, fun M k hk => ⟨.inr ⟨k, o, src, st, rfl, hk, hb, hz, hc⟩, ?_⟩, fun β β' k hk => ?_⟩
    · simp only[bytesOf,hm,hk]
    · simp only[rn,hk]
theorem BytesOk.app {mem x:List Mb} {bp:Option Addr} {l cp:Nat} (h:BytesOk mem bp l cp):BytesOk (mem ++ x) bp l cp∧bytesOf (mem ++ x) bp l=bytesOf mem bp l:=by
  rcases h with⟨rfl,rfl,rfl⟩|⟨i,o,src,st,rfl,hm,hb,hz,hc⟩
  · exact⟨.inl ⟨rfl,rfl,rfl⟩,rfl⟩
  · have hm' : (mem ++ x)[i]? = some (src, st) := by rw [List.getElem?_append_left (List.getElem?_eq_some_iff.1 hm).1]; exact hm
    exact⟨.inr ⟨i,o,src,st,rfl,hm',hb,hz,hc⟩,by simp only[bytesOf,hm,hm']⟩
theorem BytesOk.okp {mem:List Mb} {bp:Option Addr} {l cp:Nat} (h:BytesOk mem bp l cp):okp mem.length (.slice bp l cp)=true:=by
  rcases h with⟨rfl,rfl,rfl⟩|⟨i,o,src,st,rfl,hm,_⟩
  · rfl
  · have := (List.getElem?_eq_some_iff.1 hm).1
    simp[Go.Ev.okp,this]
theorem has3m {w:World} {β:Nat→Nat} {mem:List Mb} {x0 x1 y:Mb} {j:Nat} (hw:Has w β mem) (h0:mem[0]? =some x0) (h1:mem[1]? =some x1) (hy:mem[j]? =some y):Has w (fun i=>if i=2 then β j else β i) [x0,x1,y]:=fun i x hx=>by
  match i,hx with
  |0,hx=>simp only[List.getElem?_cons_zero,Option.some.injEq] at hx;subst hx;exact hw 0 _ h0
  |1,hx=>simp only[List.getElem?_cons_succ,List.getElem?_cons_zero,Option.some.injEq] at hx;subst hx;exact hw 1 _ h1
  |2,hx=>simp only[List.getElem?_cons_succ,List.getElem?_cons_zero,Option.some.injEq] at hx;subst hx;exact hw j _ hy
  |i+3,hx=>simp at hx
theorem has4m {w:World} {β:Nat→Nat} {mem:List Mb} {x0 x1 y z:Mb} {j k:Nat} (hw:Has w β mem) (h0:mem[0]? =some x0) (h1:mem[1]? =some x1) (hy:mem[j]? =some y) (hz:mem[k]? =some z):Has w (fun i=>if i=2 then β j else if i=3 then β k else β i) [x0,x1,y,z]:=fun i x hx=>by
  match i,hx with
  |0,hx=>simp only[List.getElem?_cons_zero,Option.some.injEq] at hx;subst hx;exact hw 0 _ h0
  |1,hx=>simp only[List.getElem?_cons_succ,List.getElem?_cons_zero,Option.some.injEq] at hx;subst hx;exact hw 1 _ h1
  |2,hx=>simp only[List.getElem?_cons_succ,List.getElem?_cons_zero,Option.some.injEq] at hx;subst hx;exact hw j _ hy
  |3,hx=>simp only[List.getElem?_cons_succ,List.getElem?_cons_zero,Option.some.injEq] at hx;subst hx;exact hw k _ hz
  |i+4,hx=>simp at hx
theorem gl2 {f β:Nat→Nat} (b0:β 0=0) (b1:β 1=1) (h:∀ i,i<2→f i=β i):∀ i,i<2→f i=i:=fun i hi=>by
  rw[h i hi]
  match i,hi with
  |0,_=>exact b0
  |1,_=>exact b1
  |i+2,hi=>omega
theorem lift1 {P:Program} {f:FuncId} {pre:List Value} (hp:pre.all np=true) {x0 x1:Mb} {v:Value} {mem:List Mb} {bp:Option Addr} {l cp:Nat} (hB:BytesOk mem bp l cp) (h0:mem[0]? =some x0) (h1:mem[1]? =some x1) (hS:∀ y q,BytesOk [x0,x1,y] q l cp→bytesOf [x0,x1,y] q l=bytesOf mem bp l→Reads P f [x0,x1,y] (pre ++ [Value.slice q l cp]) v 2) {w:World} {β:Nat→Nat} (hw:Has w β mem) (b0:β 0=0) (b1:β 1=1):Calls P f ((pre ++ [Value.slice bp l cp]).map (rn β)).toArray w (fun e w'=>e= .returned v∧Below w.heap.size w w'):=by
  obtain⟨y,j,q,hy,hM,hr⟩:=hB.move h0
  obtain⟨h2,h3⟩:=hM [x0,x1,y] 2 rfl
  have h:=hS y (q 2) h2 h3 w (fun i=>if i=2 then β j else β i) (has3m hw h0 h1 hy) (gl2 b0 b1 (fun i hi=>by show(if i=2 then β j else β i)=β i;rw[if_neg (by omega)]))
  have e : (pre ++ [Value.slice (q 2) l cp]).map (rn fun i => if i = 2 then β j else β i) = (pre ++ [Value.slice bp l cp]).map (rn β) := by
    rw[List.map_append,List.map_append]
    congr 1
    · exact List.map_congr_left fun u hu=>by rw[rn_np (List.all_eq_true.1 hp u hu),rn_np (List.all_eq_true.1 hp u hu)]
    · simp only [List.map_cons, List.map_nil]
      rw[hr β (fun i=>if i=2 then β j else β i) 2 (by simp)]
  rw[e] at h
  exact h
theorem lift2 {P:Program} {f:FuncId} {x0 x1:Mb} {v:Value} {post:List Value} (hp:post.all np=true) {mem:List Mb} {bp bq:Option Addr} {l cp m cq:Nat} (hB:BytesOk mem bp l cp) (hC:BytesOk mem bq m cq) (h0:mem[0]? =some x0) (h1:mem[1]? =some x1) (hS:∀ y z q r,BytesOk [x0,x1,y,z] q l cp→bytesOf [x0,x1,y,z] q l=bytesOf mem bp l→BytesOk [x0,x1,y,z] r m cq→bytesOf [x0,x1,y,z] r m=bytesOf mem bq m→Reads P f [x0,x1,y,z] (.slice q l cp :: .slice r m cq :: post) v 2) {w:World} {β:Nat→Nat} (hw:Has w β mem) (b0:β 0=0) (b1:β 1=1):Calls P f ((Value.slice bp l cp :: .slice bq m cq :: post).map (rn β)).toArray w (fun e w'=>e= .returned v∧Below w.heap.size w w'):=by
  obtain⟨y,j,q,hy,hM,hr⟩:=hB.move h0
  obtain⟨z,k,r,hz,hN,hs⟩:=hC.move h0
  obtain⟨h2,h3⟩:=hM [x0,x1,y,z] 2 rfl
  obtain⟨h4,h5⟩:=hN [x0,x1,y,z] 3 rfl
  have h:=hS y z (q 2) (r 3) h2 h3 h4 h5 w (fun i=>if i=2 then β j else if i=3 then β k else β i) (has4m hw h0 h1 hy hz) (gl2 b0 b1 (fun i hi=>by show(if i=2 then β j else if i=3 then β k else β i)=β i;rw[if_neg (by omega),if_neg (by omega)]))
  have e:(Value.slice (q 2) l cp :: .slice (r 3) m cq :: post).map (rn fun i=>if i=2 then β j else if i=3 then β k else β i)=(Value.slice bp l cp :: .slice bq m cq :: post).map (rn β):=by
    simp only[List.map_cons]
    rw[hr β (fun i=>if i=2 then β j else if i=3 then β k else β i) 2 (by simp),hs β (fun i=>if i=2 then β j else if i=3 then β k else β i) 3 (by simp)]
    congr 2
    exact List.map_congr_left fun u hu=>by rw[rn_np (List.all_eq_true.1 hp u hu),rn_np (List.all_eq_true.1 hp u hu)]
  rw[e] at h
  exact h
theorem reads_more {P:Program} {f:FuncId} {x0 x1 y:Mb} {args:List Value} {v:Value} (h:Reads P f [x0,x1] args v 2):Reads P f [x0,x1,y] args v 2:=fun w β hw hg=>
  h w β (fun i x hx => hw i x (by
    match i,hx with
    |0,hx=>exact hx
    |1,hx=>exact hx
    |i+2,hx=>simp at hx)) hg
theorem reads_at {P:Program} {f:FuncId} {x0 x1 cs:Array Value} {g0 g1 t:Tq} {y:Mb} {o l c i:Nat} {v:Value} (h:Reads P f [(x0,g0),(x1,g1),(cs,t)] [.slice (some ⟨2,o,none⟩) l c] v 2) (hm: [(x0,g0),(x1,g1),y][i]? =some (cs,t)):Reads P f [(x0,g0),(x1,g1),y] [.slice (some ⟨i,o,none⟩) l c] v 2:=fun w β hw hg=>
  readsT h rfl rfl hm hw (hg 0 (by decide)) (hg 1 (by decide))
theorem reads_atA {P:Program} {f:FuncId} {x0 x1 cs:Array Value} {g0 g1 t:Tq} {y:Mb} {o l c i:Nat} {q0 v:Value} (hq:np q0=true) (h:Reads P f [(x0,g0),(x1,g1),(cs,t)] [q0,.slice (some ⟨2,o,none⟩) l c] v 2) (hm: [(x0,g0),(x1,g1),y][i]? =some (cs,t)):Reads P f [(x0,g0),(x1,g1),y] [q0,.slice (some ⟨i,o,none⟩) l c] v 2:=fun w β hw hg=>by
  have:=h w (fun q=>if q=2 then β i else β q) (has3m (mem:= [(x0,g0),(x1,g1),y]) hw rfl rfl hm) (gl2 (hg 0 (by decide)) (hg 1 (by decide)) (fun q hq=>by show(if q=2 then β i else β q)=β q;rw[if_neg (by omega)]))
  have e1:∀ β:Nat→Nat,rn β q0=q0:=fun β=>rn_np hq
  simp only[List.map_cons,List.map_nil,e1] at this ⊢
  exact this
def pBk2 : Entry Tryd.prog where
  f:=34
  ng:=2
  g := fun mem xs => match xs with
    | [.slice bp l cp] => (match mem[0]?, mem[1]? with
      |some (x0,_),some (x1,_)=>some (.agg (wA .u8 64 (key2 (bytesOf mem bp l))),(x0=wA .u32 64 kL2∧x1=wA .u64 80 kL5∧BytesOk mem bp l cp∧l≤100000000))
      |_,_=>none)
    |_=>none
  ok := fun mem xs v c e hc w β hw hg => by
    split at e
    · rename_i bp l cp
      split at e
      · rename_i x0 g0 x1 g1 h0 h1
        simp only[Option.some.injEq,Prod.mk.injEq] at e
        obtain⟨rfl,rfl⟩:=e
        obtain⟨rfl,rfl,hB,hl⟩:=hc
        refine lift1 (pre:= []) rfl hB h0 h1 (fun y q hq he=> ?_) hw (hg 0 (by decide)) (hg 1 (by decide))
        rw[← he]
        rcases hq with⟨rfl,rfl,rfl⟩|⟨i,o,src,st,rfl,hm,hb,hz,hc⟩
        · exact reads_more (BlockN2_c g0 g1)
        · have h := reads_at (Block2_c g0 g1 st src o l cp hb hz hc (by omega)) hm
          simp only[bytesOf,hm]
          exact h
      · cases e
    · cases e
  call:=call_of Tryd.func34 (by kernel_rfl) (by kernel_rfl)
def pBk5 : Entry Tryd.prog where
  f:=35
  ng:=2
  g := fun mem xs => match xs with
    | [.slice bp l cp] => (match mem[0]?, mem[1]? with
      |some (x0,_),some (x1,_)=>some (.agg (wA .u8 128 (key5 (bytesOf mem bp l))),(x0=wA .u32 64 kL2∧x1=wA .u64 80 kL5∧BytesOk mem bp l cp∧l≤100000000))
      |_,_=>none)
    |_=>none
  ok := fun mem xs v c e hc w β hw hg => by
    split at e
    · rename_i bp l cp
      split at e
      · rename_i x0 g0 x1 g1 h0 h1
        simp only[Option.some.injEq,Prod.mk.injEq] at e
        obtain⟨rfl,rfl⟩:=e
        obtain⟨rfl,rfl,hB,hl⟩:=hc
        refine lift1 (pre:= []) rfl hB h0 h1 (fun y q hq he=> ?_) hw (hg 0 (by decide)) (hg 1 (by decide))
        rw[← he]
        rcases hq with⟨rfl,rfl,rfl⟩|⟨i,o,src,st,rfl,hm,hb,hz,hc⟩
        · exact reads_more (BlockN5_c g0 g1)
        · have h := reads_at (Block5_c g0 g1 st src o l cp hb hz hc (by omega)) hm
          simp only[bytesOf,hm]
          exact h
      · cases e
    · cases e
  call:=call_of Tryd.func35 (by kernel_rfl) (by kernel_rfl)
theorem Hm_some (g0 g1 t:Tq) (B:Array Value) (a:Array Value) (o l cp:Nat) (hB:bytesAt B 0 64) (hs:B.size=64) (h1:B.all (fun v=>v.oneCell')=true) (hb:bytesAt a o l) (hz:o+l≤a.size) (hcp:l≤cp) (hl:l≤100000000):Reads Tryd.prog 33 [(wA .u32 64 kL2,g0),(wA .u64 80 kL5,g1),(a,t)] [.agg B,.slice (some ⟨2,o,none⟩) l cp] (.agg (wA .u8 32 (hm2 B (bL a o l)))) 2:=by
  refine reads_runs (fk:=2000003) (yty.enm tabS8 [mMask] 2000003) Tryd.func33 (c:=bdy Tryd.f33) (by kernel_rfl) ⟨len3 _ _ _,by decide⟩ (args:= [.agg B,.slice (some ⟨2,o,none⟩) l cp]) (by kernel_rfl) (K:=fun e s=>e= .ret∧resS (yty.enm tabS8 [mMask] 2000003) s Tryd.f33.results.toList=some [.agg (wA .u8 32 (hm2 B (bL a o l)))]) ?_ (fun e s h=>⟨h.1,_,h.2,rfl⟩)
  refine(hmsu g0 g1 B t a o l cp (fun _=>undef) hB hs h1 hb hz hcp hl).mono ?_
  rintro e s ⟨rfl,hh⟩
  obtain⟨j,c,ch,hS,hX,rfl⟩:=hh
  rw[← hX]
  exact⟨rfl,by kernel_rfl⟩
theorem Hm_nil (g0 g1:Tq) (B:Array Value) (hB:bytesAt B 0 64) (hs:B.size=64) (h1:B.all (fun v=>v.oneCell')=true):Reads Tryd.prog 33 [(wA .u32 64 kL2,g0),(wA .u64 80 kL5,g1)] [.agg B,.slice none 0 0] (.agg (wA .u8 32 (hm2 B []))) 2:=by
  refine reads_runs (fk:=2000002) (yty.enm tabS8 [mMask] 2000002) Tryd.func33 (c:=bdy Tryd.f33) (by kernel_rfl) ⟨len2 _ _,by decide⟩ (args:= [.agg B,.slice none 0 0]) (by kernel_rfl) (K:=fun e s=>e= .ret∧resS (yty.enm tabS8 [mMask] 2000002) s Tryd.f33.results.toList=some [.agg (wA .u8 32 (hm2 B []))]) ?_ (fun e s h=>⟨h.1,_,h.2,rfl⟩)
  refine(hmnu g0 g1 B (fun _=>undef) hB hs h1).mono ?_
  rintro e s ⟨rfl,hh⟩
  obtain⟨j,c,ch,hS,hX,rfl⟩:=hh
  rw[← hX]
  exact⟨rfl,by kernel_rfl⟩
def pHm2 : Entry Tryd.prog where
  f:=33
  ng:=2
  g := fun mem xs => match xs with
    | [.agg B, .slice bp l cp] => (match mem[0]?, mem[1]? with
      |some (x0,_),some (x1,_)=>some (.agg (wA .u8 32 (hm2 B (bytesOf mem bp l))),(x0=wA .u32 64 kL2∧x1=wA .u64 80 kL5∧BytesOk mem bp l cp∧l≤100000000∧bytesAt B 0 64∧B.size=64∧B.all (fun v=>v.oneCell')=true))
      |_,_=>none)
    |_=>none
  ok := fun mem xs v c e hc w β hw hg => by
    split at e
    · rename_i B bp l cp
      split at e
      · rename_i x0 g0 x1 g1 h0 h1
        simp only[Option.some.injEq,Prod.mk.injEq] at e
        obtain⟨rfl,rfl⟩:=e
        obtain⟨rfl,rfl,hB,hl,k1,k2,k3⟩:=hc
        refine lift1 (pre:= [.agg B]) rfl hB h0 h1 (fun y q hq he=> ?_) hw (hg 0 (by decide)) (hg 1 (by decide))
        rw[← he]
        rcases hq with⟨rfl,rfl,rfl⟩|⟨i,o,src,st,rfl,hm,hb,hz,hc⟩
        · exact reads_more (Hm_nil g0 g1 B k1 k2 k3)
        · have h := reads_atA (np_agg B) (Hm_some g0 g1 st B src o l cp k1 k2 k3 hb hz hc hl) hm
          simp only[bytesOf,hm]
          exact h
      · cases e
    · cases e
  call:=call_of Tryd.func33 (by kernel_rfl) (by kernel_rfl)
def tabM1:List (Entry Tryd.prog):=pHm2 :: pBk2 :: pBk5 :: tabS8
def hmac2 (K N:List Int):List Int:=hm2 (wA .u8 64 (key2 K)) N
end Go.Proofs.YtmpjlammofgicaaDoor

set_option linter.unusedSimpArgs false
set_option linter.unusedVariables false
/-! mac: Hmac256, Hmac512. -/
namespace Go.Proofs.YtmpjlammofgicaaDoor
open Go.RowKit Go.Ev
theorem len4 (x y z u:Mb): [x,y,z,u].length=2000004%big:=by
  rw[show(2000004:Nat)%big=4 from rfl];rfl
theorem key2_bt {N:List Int} (h:∀ x ∈ N,0≤x∧x<256):∀ x ∈ key2 N,0≤x∧x<256:=by
  unfold key2;split
  · exact h
  · exact sh2_bt _
theorem key5_bt {N:List Int} (h:∀ x ∈ N,0≤x∧x<256):∀ x ∈ key5 N,0≤x∧x<256:=by
  unfold key5;split
  · exact h
  · exact sh5_bt _
def hm5 (B:Array Value) (N:List Int):List Int:=sh5 (maskL (bL B 0 128) 92 ++ sh5 (maskL (bL B 0 128) 54 ++ N))
def hmac5 (K N:List Int):List Int:=hm5 (wA .u8 128 (key5 K)) N
abbrev haA_s (g0 g1 t1 t2:Tq) (a1 a2:Array Value) (b1 b2:Option Addr) (l1 c1 l2 c2:Nat) (N1 N2:List Int) (j:Nat→Value):List Value:=([.slice b1 l1 c1,.slice b2 l2 c2] ++ (JU 7))
abbrev haA_m (g0 g1 t1 t2:Tq) (a1 a2:Array Value) (b1 b2:Option Addr) (l1 c1 l2 c2:Nat) (N1 N2:List Int):List Mb:= [((wA .u32 64 kL2),g0),((wA .u64 80 kL5),g1),(a1,t1),(a2,t2)]
abbrev haB_s (g0 g1 t1 t2:Tq) (a1 a2:Array Value) (b1 b2:Option Addr) (l1 c1 l2 c2:Nat) (N1 N2:List Int) (j:Nat→Value):List Value:=([.slice b1 l1 c1,.slice b2 l2 c2,j 2,j 3,.pointer (some ⟨4,0,none⟩)] ++ (J j 5 4))
abbrev haB_m (g0 g1 t1 t2:Tq) (a1 a2:Array Value) (b1 b2:Option Addr) (l1 c1 l2 c2:Nat) (N1 N2:List Int):List Mb:= [((wA .u32 64 kL2),g0),((wA .u64 80 kL5),g1),(a1,t1),(a2,t2),((wA .u8 32 []),(25,(0,0)))]
def ha0p_h (i:Nat):Hn:=⟨0,[],[],[],[]⟩
def ha0p_b (g0 g1 t1 t2:Tq) (a1 a2:Array Value) (b1 b2:Option Addr) (l1 c1 l2 c2:Nat) (N1 N2:List Int) (j:Nat→Value):List Value:=([.slice b1 l1 c1,.slice b2 l2 c2,undef,undef,.pointer (some ⟨4,0,none⟩)] ++ (JU 4))
theorem ha0p_0 (g0 g1 t1 t2:Tq) (a1 a2:Array Value) (b1 b2:Option Addr) (l1 c1 l2 c2:Nat) (N1 N2:List Int) (j:Nat→Value):evC (yty.enm tabM1 [mMask] 2000004) ha0p_h (cAt [0] (bdy Tryd.f15)) ⟨haA_s g0 g1 t1 t2 a1 a2 b1 b2 l1 c1 l2 c2 N1 N2 j,haA_m g0 g1 t1 t2 a1 a2 b1 b2 l1 c1 l2 c2 N1 N2,True,[]⟩=some (.normal,⟨ha0p_b g0 g1 t1 t2 a1 a2 b1 b2 l1 c1 l2 c2 N1 N2 j,[((wA .u32 64 kL2),g0),((wA .u64 80 kL5),g1),(a1,t1),(a2,t2),((wA .u8 32 []),(25,(0,0)))],True,[]⟩):=by kernel_rfl
theorem ha0 (g0 g1 t1 t2:Tq) (a1 a2:Array Value) (b1 b2:Option Addr) (l1 c1 l2 c2:Nat) (N1 N2:List Int) (j:Nat→Value) (hk:BytesOk [(wA .u32 64 kL2,g0),(wA .u64 80 kL5,g1),(a1,t1),(a2,t2)] b1 l1 c1) (hN1:bytesOf [(wA .u32 64 kL2,g0),(wA .u64 80 kL5,g1),(a1,t1),(a2,t2)] b1 l1=N1) (ht:BytesOk [(wA .u32 64 kL2,g0),(wA .u64 80 kL5,g1),(a1,t1),(a2,t2)] b2 l2 c2) (hN2:bytesOf [(wA .u32 64 kL2,g0),(wA .u64 80 kL5,g1),(a1,t1),(a2,t2)] b2 l2=N2) (hl:l1≤100000000∧l2≤100000000)  {c0:Prop} {ch0:List (Option Value)}:Runs Tryd.prog (cAt [0] (bdy Tryd.f15)) ⟨haA_s g0 g1 t1 t2 a1 a2 b1 b2 l1 c1 l2 c2 N1 N2 j,haA_m g0 g1 t1 t2 a1 a2 b1 b2 l1 c1 l2 c2 N1 N2,c0,ch0⟩ (fun e s=>e= .normal∧∃(j:Nat→Value) (c:Prop) (ch:List (Option Value)),s=⟨haB_s g0 g1 t1 t2 a1 a2 b1 b2 l1 c1 l2 c2 N1 N2 j,haB_m g0 g1 t1 t2 a1 a2 b1 b2 l1 c1 l2 c2 N1 N2,c,ch⟩) 2000004:=by
  refine(runs_ev mixed _ (ha0p_0 g0 g1 t1 t2 a1 a2 b1 b2 l1 c1 l2 c2 N1 N2 j) trivial).mono ?_
  rintro e s ⟨rfl,hs⟩
  refine⟨rfl,fun q=>s.tm.getD q undef,s.c,s.ch,?_⟩
  subst hs
  kernel_rfl
abbrev haC_s (g0 g1 t1 t2:Tq) (a1 a2:Array Value) (b1 b2:Option Addr) (l1 c1 l2 c2:Nat) (N1 N2:List Int) (j:Nat→Value):List Value:=(J j 0 4 ++ ([.pointer (some ⟨4,0,none⟩)] ++ (J j 5 4)))
abbrev haC_m (g0 g1 t1 t2:Tq) (a1 a2:Array Value) (b1 b2:Option Addr) (l1 c1 l2 c2:Nat) (N1 N2:List Int):List Mb:= [((wA .u32 64 kL2),g0),((wA .u64 80 kL5),g1),(a1,t1),(a2,t2),((wA .u8 32 (hmac2 N1 N2)),(25,(0,0)))]
def ha1p_h (i:Nat):Hn:=⟨0,[],[],[],[]⟩
def ha1p_b (g0 g1 t1 t2:Tq) (a1 a2:Array Value) (b1 b2:Option Addr) (l1 c1 l2 c2:Nat) (N1 N2:List Int) (j:Nat→Value):List Value:=([.slice b1 l1 c1,.slice b2 l2 c2,j 2,j 3,.pointer (some ⟨4,0,none⟩),.slice b1 l1 c1,.agg (wA .u8 64 (key2 (bytesOf [((wA .u32 64 kL2),g0),((wA .u64 80 kL5),g1),(a1,t1),(a2,t2),((wA .u8 32 []),(25,(0,0)))] b1 l1))),.slice b2 l2 c2,.agg (wA .u8 32 (hm2 (wA .u8 64 (key2 (bytesOf [((wA .u32 64 kL2),g0),((wA .u64 80 kL5),g1),(a1,t1),(a2,t2),((wA .u8 32 []),(25,(0,0)))] b1 l1))) (bytesOf [((wA .u32 64 kL2),g0),((wA .u64 80 kL5),g1),(a1,t1),(a2,t2),((wA .u8 32 []),(25,(0,0)))] b2 l2)))])
theorem ha1p_0 (g0 g1 t1 t2:Tq) (a1 a2:Array Value) (b1 b2:Option Addr) (l1 c1 l2 c2:Nat) (N1 N2:List Int) (j:Nat→Value):evC (yty.enm tabM1 [mMask] 2000004) ha1p_h (cAt [1] (bdy Tryd.f15)) ⟨haB_s g0 g1 t1 t2 a1 a2 b1 b2 l1 c1 l2 c2 N1 N2 j,haB_m g0 g1 t1 t2 a1 a2 b1 b2 l1 c1 l2 c2 N1 N2,True,[]⟩=some (.ret,⟨ha1p_b g0 g1 t1 t2 a1 a2 b1 b2 l1 c1 l2 c2 N1 N2 j,[((wA .u32 64 kL2),g0),((wA .u64 80 kL5),g1),(a1,t1),(a2,t2),((wA .u8 32 (hm2 (wA .u8 64 (key2 (bytesOf [((wA .u32 64 kL2),g0),((wA .u64 80 kL5),g1),(a1,t1),(a2,t2),((wA .u8 32 []),(25,(0,0)))] b1 l1))) (bytesOf [((wA .u32 64 kL2),g0),((wA .u64 80 kL5),g1),(a1,t1),(a2,t2),((wA .u8 32 []),(25,(0,0)))] b2 l2))),(25,(0,0)))],(((((True∧True)∧((wA .u32 64 kL2)=wA .u32 64 kL2∧(wA .u64 80 kL5)=wA .u64 80 kL5∧BytesOk [((wA .u32 64 kL2),g0),((wA .u64 80 kL5),g1),(a1,t1),(a2,t2),((wA .u8 32 []),(25,(0,0)))] b1 l1 c1∧l1≤100000000))∧True)∧((wA .u32 64 kL2)=wA .u32 64 kL2∧(wA .u64 80 kL5)=wA .u64 80 kL5∧BytesOk [((wA .u32 64 kL2),g0),((wA .u64 80 kL5),g1),(a1,t1),(a2,t2),((wA .u8 32 []),(25,(0,0)))] b2 l2 c2∧l2≤100000000∧bytesAt (wA .u8 64 (key2 (bytesOf [((wA .u32 64 kL2),g0),((wA .u64 80 kL5),g1),(a1,t1),(a2,t2),((wA .u8 32 []),(25,(0,0)))] b1 l1))) 0 64∧(wA .u8 64 (key2 (bytesOf [((wA .u32 64 kL2),g0),((wA .u64 80 kL5),g1),(a1,t1),(a2,t2),((wA .u8 32 []),(25,(0,0)))] b1 l1))).size=64∧(wA .u8 64 (key2 (bytesOf [((wA .u32 64 kL2),g0),((wA .u64 80 kL5),g1),(a1,t1),(a2,t2),((wA .u8 32 []),(25,(0,0)))] b1 l1))).all (fun v=>v.oneCell')=true))∧((wA .u8 32 (hm2 (wA .u8 64 (key2 (bytesOf [((wA .u32 64 kL2),g0),((wA .u64 80 kL5),g1),(a1,t1),(a2,t2),((wA .u8 32 []),(25,(0,0)))] b1 l1))) (bytesOf [((wA .u32 64 kL2),g0),((wA .u64 80 kL5),g1),(a1,t1),(a2,t2),((wA .u8 32 []),(25,(0,0)))] b2 l2))).all (fun v=>v.oneCell')=true)),[]⟩):=by kernel_rfl
theorem ha1 (g0 g1 t1 t2:Tq) (a1 a2:Array Value) (b1 b2:Option Addr) (l1 c1 l2 c2:Nat) (N1 N2:List Int) (j:Nat→Value) (hk:BytesOk [(wA .u32 64 kL2,g0),(wA .u64 80 kL5,g1),(a1,t1),(a2,t2)] b1 l1 c1) (hN1:bytesOf [(wA .u32 64 kL2,g0),(wA .u64 80 kL5,g1),(a1,t1),(a2,t2)] b1 l1=N1) (ht:BytesOk [(wA .u32 64 kL2,g0),(wA .u64 80 kL5,g1),(a1,t1),(a2,t2)] b2 l2 c2) (hN2:bytesOf [(wA .u32 64 kL2,g0),(wA .u64 80 kL5,g1),(a1,t1),(a2,t2)] b2 l2=N2) (hl:l1≤100000000∧l2≤100000000)  {c0:Prop} {ch0:List (Option Value)}:Runs Tryd.prog (cAt [1] (bdy Tryd.f15)) ⟨haB_s g0 g1 t1 t2 a1 a2 b1 b2 l1 c1 l2 c2 N1 N2 j,haB_m g0 g1 t1 t2 a1 a2 b1 b2 l1 c1 l2 c2 N1 N2,c0,ch0⟩ (fun e s=>e= .ret∧∃(j:Nat→Value) (c:Prop) (ch:List (Option Value)),s=⟨haC_s g0 g1 t1 t2 a1 a2 b1 b2 l1 c1 l2 c2 N1 N2 j,haC_m g0 g1 t1 t2 a1 a2 b1 b2 l1 c1 l2 c2 N1 N2,c,ch⟩) 2000004:=by
  have e1:bytesOf [((wA .u32 64 kL2),g0),((wA .u64 80 kL5),g1),(a1,t1),(a2,t2),((wA .u8 32 []),(25,(0,0)))] b1 l1=N1:=(BytesOk.app (x:= [_]) hk).2.trans hN1
  have e2:bytesOf [((wA .u32 64 kL2),g0),((wA .u64 80 kL5),g1),(a1,t1),(a2,t2),((wA .u8 32 []),(25,(0,0)))] b2 l2=N2:=(BytesOk.app (x:= [_]) ht).2.trans hN2
  refine(runs_ev mixed _ (ha1p_0 g0 g1 t1 t2 a1 a2 b1 b2 l1 c1 l2 c2 N1 N2 j) ⟨⟨⟨⟨⟨trivial,trivial⟩,⟨rfl,rfl,(BytesOk.app (x:= [_]) hk).1,hl.1⟩⟩,trivial⟩,⟨rfl,rfl,(BytesOk.app (x:= [_]) ht).1,hl.2,bytes_wA (key2_bt (BytesOk.app (x:= [_]) hk).1.bt),wA_size _ _ _,wA_one _ _ _⟩⟩,(wA_one _ _ _)⟩).mono ?_
  rintro e s ⟨rfl,hs⟩
  refine⟨rfl,fun q=>s.tm.getD q undef,s.c,s.ch,?_⟩
  subst hs
  rw[e1,e2]
  kernel_rfl
theorem hau (g0 g1 t1 t2:Tq) (a1 a2:Array Value) (b1 b2:Option Addr) (l1 c1 l2 c2:Nat) (N1 N2:List Int) (j:Nat→Value) (hk:BytesOk [(wA .u32 64 kL2,g0),(wA .u64 80 kL5,g1),(a1,t1),(a2,t2)] b1 l1 c1) (hN1:bytesOf [(wA .u32 64 kL2,g0),(wA .u64 80 kL5,g1),(a1,t1),(a2,t2)] b1 l1=N1) (ht:BytesOk [(wA .u32 64 kL2,g0),(wA .u64 80 kL5,g1),(a1,t1),(a2,t2)] b2 l2 c2) (hN2:bytesOf [(wA .u32 64 kL2,g0),(wA .u64 80 kL5,g1),(a1,t1),(a2,t2)] b2 l2=N2) (hl:l1≤100000000∧l2≤100000000)  {c0:Prop} {ch0:List (Option Value)}:Runs Tryd.prog (cAt [] (bdy Tryd.f15)) ⟨haA_s g0 g1 t1 t2 a1 a2 b1 b2 l1 c1 l2 c2 N1 N2 j,haA_m g0 g1 t1 t2 a1 a2 b1 b2 l1 c1 l2 c2 N1 N2,c0,ch0⟩ (fun e s=>e= .ret∧∃(j:Nat→Value) (c:Prop) (ch:List (Option Value)),s=⟨haC_s g0 g1 t1 t2 a1 a2 b1 b2 l1 c1 l2 c2 N1 N2 j,haC_m g0 g1 t1 t2 a1 a2 b1 b2 l1 c1 l2 c2 N1 N2,c,ch⟩) 2000004:=by
  rw[show(cAt [] (bdy Tryd.f15))=(.seq (cAt [0] (bdy Tryd.f15)) (cAt [1] (bdy Tryd.f15))) from by kernel_rfl]
  refine runs_seq (ha0 g0 g1 t1 t2 a1 a2 b1 b2 l1 c1 l2 c2 N1 N2 j hk hN1 ht hN2 hl ) (fun s hh=> ?_) (fun e s hne hh=>absurd hh.1 hne)
  obtain⟨_,j,c,ch,rfl⟩:=hh
  refine(ha1 g0 g1 t1 t2 a1 a2 b1 b2 l1 c1 l2 c2 N1 N2 j hk hN1 ht hN2 hl ).mono ?_
  rintro e s ⟨rfl,j,c,ch,rfl⟩
  exact⟨rfl,j,c,ch,rfl⟩
theorem Hmac2_c (g0 g1 t1 t2:Tq) (a1 a2:Array Value) (b1 b2:Option Addr) (l1 c1 l2 c2:Nat) (hk:BytesOk [(wA .u32 64 kL2,g0),(wA .u64 80 kL5,g1),(a1,t1),(a2,t2)] b1 l1 c1) (ht:BytesOk [(wA .u32 64 kL2,g0),(wA .u64 80 kL5,g1),(a1,t1),(a2,t2)] b2 l2 c2) (hl:l1≤100000000∧l2≤100000000):Reads Tryd.prog 15 [(wA .u32 64 kL2,g0),(wA .u64 80 kL5,g1),(a1,t1),(a2,t2)] [.slice b1 l1 c1,.slice b2 l2 c2] (.agg (wA .u8 32 (hmac2 (bytesOf [(wA .u32 64 kL2,g0),(wA .u64 80 kL5,g1),(a1,t1),(a2,t2)] b1 l1) (bytesOf [(wA .u32 64 kL2,g0),(wA .u64 80 kL5,g1),(a1,t1),(a2,t2)] b2 l2)))) 2:=by
  refine reads_runs (fk:=2000004) (yty.enm tabM1 [mMask] 2000004) Tryd.func15 (c:=bdy Tryd.f15) (by kernel_rfl) ⟨len4 _ _ _ _,by decide⟩ (args:= [.slice b1 l1 c1,.slice b2 l2 c2]) (by show(Go.Ev.okp 4 (.slice b1 l1 c1) && (Go.Ev.okp 4 (.slice b2 l2 c2) && true))=true;rw[show Go.Ev.okp 4 (.slice b1 l1 c1)=true from hk.okp,show Go.Ev.okp 4 (.slice b2 l2 c2)=true from ht.okp];rfl) (K:=fun e s=>e= .ret∧resS (yty.enm tabM1 [mMask] 2000004) s Tryd.f15.results.toList=some [.agg (wA .u8 32 (hmac2 (bytesOf [(wA .u32 64 kL2,g0),(wA .u64 80 kL5,g1),(a1,t1),(a2,t2)] b1 l1) (bytesOf [(wA .u32 64 kL2,g0),(wA .u64 80 kL5,g1),(a1,t1),(a2,t2)] b2 l2)))]) ?_ (fun e s h=>⟨h.1,_,h.2,rfl⟩)
  generalize h1:bytesOf [(wA .u32 64 kL2,g0),(wA .u64 80 kL5,g1),(a1,t1),(a2,t2)] b1 l1=N1
  generalize h2:bytesOf [(wA .u32 64 kL2,g0),(wA .u64 80 kL5,g1),(a1,t1),(a2,t2)] b2 l2=N2
  refine(hau g0 g1 t1 t2 a1 a2 b1 b2 l1 c1 l2 c2 N1 N2 (fun _=>undef) hk h1 ht h2 hl).mono ?_
  rintro e s ⟨rfl,hh⟩
  obtain⟨j,c,ch,rfl⟩:=hh
  exact⟨rfl,by kernel_rfl⟩
abbrev hbA_s (g0 g1 t1 t2:Tq) (a1 a2:Array Value) (b1 b2:Option Addr) (l1 c1 l2 c2:Nat) (N1 N2:List Int) (j:Nat→Value):List Value:=([.slice b1 l1 c1,.slice b2 l2 c2] ++ (JU 15))
abbrev hbA_m (g0 g1 t1 t2:Tq) (a1 a2:Array Value) (b1 b2:Option Addr) (l1 c1 l2 c2:Nat) (N1 N2:List Int):List Mb:= [((wA .u32 64 kL2),g0),((wA .u64 80 kL5),g1),(a1,t1),(a2,t2)]
abbrev hbB_s (g0 g1 t1 t2:Tq) (a1 a2:Array Value) (b1 b2:Option Addr) (l1 c1 l2 c2:Nat) (N1 N2:List Int) (j:Nat→Value):List Value:=([.slice b1 l1 c1,.slice b2 l2 c2,j 2,j 3,.pointer (some ⟨4,0,none⟩)] ++ (J j 5 12))
abbrev hbB_m (g0 g1 t1 t2:Tq) (a1 a2:Array Value) (b1 b2:Option Addr) (l1 c1 l2 c2:Nat) (N1 N2:List Int):List Mb:= [((wA .u32 64 kL2),g0),((wA .u64 80 kL5),g1),(a1,t1),(a2,t2),((wA .u8 64 []),(29,(0,0)))]
def hb0p_h (i:Nat):Hn:=if i=3 then⟨4,[],[],[],[]⟩ else⟨0,[],[],[],[]⟩
def hb0p_b (g0 g1 t1 t2:Tq) (a1 a2:Array Value) (b1 b2:Option Addr) (l1 c1 l2 c2:Nat) (N1 N2:List Int) (j:Nat→Value):List Value:=([.slice b1 l1 c1,.slice b2 l2 c2,undef,undef,.pointer (some ⟨4,0,none⟩)] ++ (JU 12))
theorem hb0p_0 (g0 g1 t1 t2:Tq) (a1 a2:Array Value) (b1 b2:Option Addr) (l1 c1 l2 c2:Nat) (N1 N2:List Int) (j:Nat→Value):evC (yty.enm tabM1 [mMask] 2000004) hb0p_h (cAt [0] (bdy Tryd.f16)) ⟨hbA_s g0 g1 t1 t2 a1 a2 b1 b2 l1 c1 l2 c2 N1 N2 j,hbA_m g0 g1 t1 t2 a1 a2 b1 b2 l1 c1 l2 c2 N1 N2,True,[]⟩=some (.normal,⟨hb0p_b g0 g1 t1 t2 a1 a2 b1 b2 l1 c1 l2 c2 N1 N2 j,[((wA .u32 64 kL2),g0),((wA .u64 80 kL5),g1),(a1,t1),(a2,t2),((wA .u8 64 []),(29,(0,0)))],True,[]⟩):=by kernel_rfl
theorem hb0 (g0 g1 t1 t2:Tq) (a1 a2:Array Value) (b1 b2:Option Addr) (l1 c1 l2 c2:Nat) (N1 N2:List Int) (j:Nat→Value) (hk:BytesOk [(wA .u32 64 kL2,g0),(wA .u64 80 kL5,g1),(a1,t1),(a2,t2)] b1 l1 c1) (hN1:bytesOf [(wA .u32 64 kL2,g0),(wA .u64 80 kL5,g1),(a1,t1),(a2,t2)] b1 l1=N1) (ht:BytesOk [(wA .u32 64 kL2,g0),(wA .u64 80 kL5,g1),(a1,t1),(a2,t2)] b2 l2 c2) (hN2:bytesOf [(wA .u32 64 kL2,g0),(wA .u64 80 kL5,g1),(a1,t1),(a2,t2)] b2 l2=N2) (hl:l1≤100000000∧l2≤100000000)  {c0:Prop} {ch0:List (Option Value)}:Runs Tryd.prog (cAt [0] (bdy Tryd.f16)) ⟨hbA_s g0 g1 t1 t2 a1 a2 b1 b2 l1 c1 l2 c2 N1 N2 j,hbA_m g0 g1 t1 t2 a1 a2 b1 b2 l1 c1 l2 c2 N1 N2,c0,ch0⟩ (fun e s=>e= .normal∧∃(j:Nat→Value) (c:Prop) (ch:List (Option Value)),s=⟨hbB_s g0 g1 t1 t2 a1 a2 b1 b2 l1 c1 l2 c2 N1 N2 j,hbB_m g0 g1 t1 t2 a1 a2 b1 b2 l1 c1 l2 c2 N1 N2,c,ch⟩) 2000004:=by
  refine(runs_ev mixed _ (hb0p_0 g0 g1 t1 t2 a1 a2 b1 b2 l1 c1 l2 c2 N1 N2 j) trivial).mono ?_
  rintro e s ⟨rfl,hs⟩
  refine⟨rfl,fun q=>s.tm.getD q undef,s.c,s.ch,?_⟩
  subst hs
  kernel_rfl
abbrev hbC_s (g0 g1 t1 t2:Tq) (a1 a2:Array Value) (b1 b2:Option Addr) (l1 c1 l2 c2:Nat) (N1 N2:List Int) (j:Nat→Value):List Value:=([j 0,.slice b2 l2 c2,j 2,j 3,.pointer (some ⟨4,0,none⟩),.pointer (some ⟨5,0,none⟩)] ++ (J j 6 11))
abbrev hbC_m (g0 g1 t1 t2:Tq) (a1 a2:Array Value) (b1 b2:Option Addr) (l1 c1 l2 c2:Nat) (N1 N2:List Int):List Mb:= [((wA .u32 64 kL2),g0),((wA .u64 80 kL5),g1),(a1,t1),(a2,t2),((wA .u8 64 []),(29,(0,0))),((wA .u8 128 (key5 N1)),(53,(0,0)))]
def hb1p_h (i:Nat):Hn:=if i=3 then⟨4,[],[],[],[]⟩ else⟨0,[],[],[],[]⟩
def hb1p_b (g0 g1 t1 t2:Tq) (a1 a2:Array Value) (b1 b2:Option Addr) (l1 c1 l2 c2:Nat) (N1 N2:List Int) (j:Nat→Value):List Value:=([.slice b1 l1 c1,.slice b2 l2 c2,j 2,j 3,.pointer (some ⟨4,0,none⟩),.pointer (some ⟨5,0,none⟩),j 6,.slice b1 l1 c1,.agg (wA .u8 128 (key5 (bytesOf [((wA .u32 64 kL2),g0),((wA .u64 80 kL5),g1),(a1,t1),(a2,t2),((wA .u8 64 []),(29,(0,0)))] b1 l1)))] ++ (J j 9 8))
theorem hb1p_0 (g0 g1 t1 t2:Tq) (a1 a2:Array Value) (b1 b2:Option Addr) (l1 c1 l2 c2:Nat) (N1 N2:List Int) (j:Nat→Value):evC (yty.enm tabM1 [mMask] 2000004) hb1p_h (cAt [1,0] (bdy Tryd.f16)) ⟨hbB_s g0 g1 t1 t2 a1 a2 b1 b2 l1 c1 l2 c2 N1 N2 j,hbB_m g0 g1 t1 t2 a1 a2 b1 b2 l1 c1 l2 c2 N1 N2,True,[]⟩=some (.normal,⟨hb1p_b g0 g1 t1 t2 a1 a2 b1 b2 l1 c1 l2 c2 N1 N2 j,[((wA .u32 64 kL2),g0),((wA .u64 80 kL5),g1),(a1,t1),(a2,t2),((wA .u8 64 []),(29,(0,0))),((wA .u8 128 (key5 (bytesOf [((wA .u32 64 kL2),g0),((wA .u64 80 kL5),g1),(a1,t1),(a2,t2),((wA .u8 64 []),(29,(0,0)))] b1 l1))),(53,(0,0)))],(((True∧True)∧((wA .u32 64 kL2)=wA .u32 64 kL2∧(wA .u64 80 kL5)=wA .u64 80 kL5∧BytesOk [((wA .u32 64 kL2),g0),((wA .u64 80 kL5),g1),(a1,t1),(a2,t2),((wA .u8 64 []),(29,(0,0)))] b1 l1 c1∧l1≤100000000))∧((wA .u8 128 (key5 (bytesOf [((wA .u32 64 kL2),g0),((wA .u64 80 kL5),g1),(a1,t1),(a2,t2),((wA .u8 64 []),(29,(0,0)))] b1 l1))).all (fun v=>v.oneCell')=true)),[]⟩):=by kernel_rfl
theorem hb1 (g0 g1 t1 t2:Tq) (a1 a2:Array Value) (b1 b2:Option Addr) (l1 c1 l2 c2:Nat) (N1 N2:List Int) (j:Nat→Value) (hk:BytesOk [(wA .u32 64 kL2,g0),(wA .u64 80 kL5,g1),(a1,t1),(a2,t2)] b1 l1 c1) (hN1:bytesOf [(wA .u32 64 kL2,g0),(wA .u64 80 kL5,g1),(a1,t1),(a2,t2)] b1 l1=N1) (ht:BytesOk [(wA .u32 64 kL2,g0),(wA .u64 80 kL5,g1),(a1,t1),(a2,t2)] b2 l2 c2) (hN2:bytesOf [(wA .u32 64 kL2,g0),(wA .u64 80 kL5,g1),(a1,t1),(a2,t2)] b2 l2=N2) (hl:l1≤100000000∧l2≤100000000)  {c0:Prop} {ch0:List (Option Value)}:Runs Tryd.prog (cAt [1,0] (bdy Tryd.f16)) ⟨hbB_s g0 g1 t1 t2 a1 a2 b1 b2 l1 c1 l2 c2 N1 N2 j,hbB_m g0 g1 t1 t2 a1 a2 b1 b2 l1 c1 l2 c2 N1 N2,c0,ch0⟩ (fun e s=>e= .normal∧∃(j:Nat→Value) (c:Prop) (ch:List (Option Value)),s=⟨hbC_s g0 g1 t1 t2 a1 a2 b1 b2 l1 c1 l2 c2 N1 N2 j,hbC_m g0 g1 t1 t2 a1 a2 b1 b2 l1 c1 l2 c2 N1 N2,c,ch⟩) 2000004:=by
  have e1:bytesOf [((wA .u32 64 kL2),g0),((wA .u64 80 kL5),g1),(a1,t1),(a2,t2),((wA .u8 64 []),(29,(0,0)))] b1 l1=N1:=(BytesOk.app (x:= [_]) hk).2.trans hN1
  refine(runs_ev mixed _ (hb1p_0 g0 g1 t1 t2 a1 a2 b1 b2 l1 c1 l2 c2 N1 N2 j) ⟨⟨⟨trivial,trivial⟩,⟨rfl,rfl,(BytesOk.app (x:= [_]) hk).1,hl.1⟩⟩,(wA_one _ _ _)⟩).mono ?_
  rintro e s ⟨rfl,hs⟩
  refine⟨rfl,fun q=>s.tm.getD q undef,s.c,s.ch,?_⟩
  subst hs
  rw[e1]
  kernel_rfl
abbrev hbD_s (g0 g1 t1 t2:Tq) (a1 a2:Array Value) (b1 b2:Option Addr) (l1 c1 l2 c2:Nat) (N1 N2:List Int) (S:List Int) (j:Nat→Value):List Value:=(J j 0 4 ++ ([.pointer (some ⟨4,0,none⟩),.pointer (some ⟨5,0,none⟩),.pointer (some ⟨7,0,none⟩)] ++ (J j 7 10)))
abbrev hbD_m (g0 g1 t1 t2:Tq) (a1 a2:Array Value) (b1 b2:Option Addr) (l1 c1 l2 c2:Nat) (N1 N2:List Int) (S:List Int):List Mb:= [((wA .u32 64 kL2),g0),((wA .u64 80 kL5),g1),(a1,t1),(a2,t2),((wA .u8 64 []),(29,(0,0))),((wA .u8 128 (key5 N1)),(53,(0,0))),((wA .u8 (128+l2) (maskL (bL (wA .u8 128 (key5 N1)) 0 128) 54 ++ N2)),(5,(0,0))),((wA .u8 64 S),(29,(0,0)))]
def hb2p_h (i:Nat):Hn:=if i=3 then⟨4,[],[],[],[]⟩ else⟨0,[],[],[],[]⟩
def hb2p_b (g0 g1 t1 t2:Tq) (a1 a2:Array Value) (b1 b2:Option Addr) (l1 c1 l2 c2:Nat) (N1 N2:List Int) (j:Nat→Value):List Value:=([j 0,.slice b2 l2 c2,j 2,j 3,.pointer (some ⟨4,0,none⟩),.pointer (some ⟨5,0,none⟩),.pointer (some ⟨7,0,none⟩),j 7,j 8,.slice (some ⟨5,0,none⟩) 128 128,.slice b2 l2 c2,.slice (some ⟨6,0,none⟩) (128+l2) (128+l2),.agg (wA .u8 64 (sum5 (wA .u8 (128+l2) (maskL (bL (wA .u8 128 (key5 N1)) 0 128) 54 ++ (bytesOf [((wA .u32 64 kL2),g0),((wA .u64 80 kL5),g1),(a1,t1),(a2,t2),((wA .u8 64 []),(29,(0,0))),((wA .u8 128 (key5 N1)),(53,(0,0)))] b2 l2))) 0 (128+l2)))] ++ (J j 13 4))
theorem hb2p_0 (g0 g1 t1 t2:Tq) (a1 a2:Array Value) (b1 b2:Option Addr) (l1 c1 l2 c2:Nat) (N1 N2:List Int) (j:Nat→Value):evC (yty.enm tabM1 [mMask] 2000004) hb2p_h (cAt [1,1,0] (bdy Tryd.f16)) ⟨hbC_s g0 g1 t1 t2 a1 a2 b1 b2 l1 c1 l2 c2 N1 N2 j,hbC_m g0 g1 t1 t2 a1 a2 b1 b2 l1 c1 l2 c2 N1 N2,True,[]⟩=some (.normal,⟨hb2p_b g0 g1 t1 t2 a1 a2 b1 b2 l1 c1 l2 c2 N1 N2 j,[((wA .u32 64 kL2),g0),((wA .u64 80 kL5),g1),(a1,t1),(a2,t2),((wA .u8 64 []),(29,(0,0))),((wA .u8 128 (key5 N1)),(53,(0,0))),((wA .u8 (128+l2) (maskL (bL (wA .u8 128 (key5 N1)) 0 128) 54 ++ (bytesOf [((wA .u32 64 kL2),g0),((wA .u64 80 kL5),g1),(a1,t1),(a2,t2),((wA .u8 64 []),(29,(0,0))),((wA .u8 128 (key5 N1)),(53,(0,0)))] b2 l2))),(5,(0,0))),((wA .u8 64 (sum5 (wA .u8 (128+l2) (maskL (bL (wA .u8 128 (key5 N1)) 0 128) 54 ++ (bytesOf [((wA .u32 64 kL2),g0),((wA .u64 80 kL5),g1),(a1,t1),(a2,t2),((wA .u8 64 []),(29,(0,0))),((wA .u8 128 (key5 N1)),(53,(0,0)))] b2 l2))) 0 (128+l2))),(29,(0,0)))],(((((True∧True)∧True)∧(bytesAt (wA .u8 128 (key5 N1)) 0 128∧128≤1000000000∧BytesOk [((wA .u32 64 kL2),g0),((wA .u64 80 kL5),g1),(a1,t1),(a2,t2),((wA .u8 64 []),(29,(0,0))),((wA .u8 128 (key5 N1)),(53,(0,0)))] b2 l2 c2∧l2≤1000000000))∧((wA .u32 64 kL2)=wA .u32 64 kL2∧(wA .u64 80 kL5)=wA .u64 80 kL5∧bytesAt (wA .u8 (128+l2) (maskL (bL (wA .u8 128 (key5 N1)) 0 128) 54 ++ (bytesOf [((wA .u32 64 kL2),g0),((wA .u64 80 kL5),g1),(a1,t1),(a2,t2),((wA .u8 64 []),(29,(0,0))),((wA .u8 128 (key5 N1)),(53,(0,0)))] b2 l2))) 0 (128+l2)∧0+(128+l2)≤(wA .u8 (128+l2) (maskL (bL (wA .u8 128 (key5 N1)) 0 128) 54 ++ (bytesOf [((wA .u32 64 kL2),g0),((wA .u64 80 kL5),g1),(a1,t1),(a2,t2),((wA .u8 64 []),(29,(0,0))),((wA .u8 128 (key5 N1)),(53,(0,0)))] b2 l2))).size∧(128+l2)≤(128+l2)∧(128+l2)<1152921504606846976))∧((wA .u8 64 (sum5 (wA .u8 (128+l2) (maskL (bL (wA .u8 128 (key5 N1)) 0 128) 54 ++ (bytesOf [((wA .u32 64 kL2),g0),((wA .u64 80 kL5),g1),(a1,t1),(a2,t2),((wA .u8 64 []),(29,(0,0))),((wA .u8 128 (key5 N1)),(53,(0,0)))] b2 l2))) 0 (128+l2))).all (fun v=>v.oneCell')=true)),[]⟩):=by kernel_rfl
theorem hb2 (g0 g1 t1 t2:Tq) (a1 a2:Array Value) (b1 b2:Option Addr) (l1 c1 l2 c2:Nat) (N1 N2:List Int) (j:Nat→Value) (hk:BytesOk [(wA .u32 64 kL2,g0),(wA .u64 80 kL5,g1),(a1,t1),(a2,t2)] b1 l1 c1) (hN1:bytesOf [(wA .u32 64 kL2,g0),(wA .u64 80 kL5,g1),(a1,t1),(a2,t2)] b1 l1=N1) (ht:BytesOk [(wA .u32 64 kL2,g0),(wA .u64 80 kL5,g1),(a1,t1),(a2,t2)] b2 l2 c2) (hN2:bytesOf [(wA .u32 64 kL2,g0),(wA .u64 80 kL5,g1),(a1,t1),(a2,t2)] b2 l2=N2) (hl:l1≤100000000∧l2≤100000000)  {c0:Prop} {ch0:List (Option Value)}:Runs Tryd.prog (cAt [1,1,0] (bdy Tryd.f16)) ⟨hbC_s g0 g1 t1 t2 a1 a2 b1 b2 l1 c1 l2 c2 N1 N2 j,hbC_m g0 g1 t1 t2 a1 a2 b1 b2 l1 c1 l2 c2 N1 N2,c0,ch0⟩ (fun e s=>e= .normal∧∃(j:Nat→Value) (c:Prop) (ch:List (Option Value)),((sum5 (wA .u8 (128+l2) (maskL (bL (wA .u8 128 (key5 N1)) 0 128) 54 ++ N2)) 0 (128+l2))=sh5 (maskL (bL (wA .u8 128 (key5 N1)) 0 128) 54 ++ N2))∧s=⟨hbD_s g0 g1 t1 t2 a1 a2 b1 b2 l1 c1 l2 c2 N1 N2 (sum5 (wA .u8 (128+l2) (maskL (bL (wA .u8 128 (key5 N1)) 0 128) 54 ++ N2)) 0 (128+l2)) j,hbD_m g0 g1 t1 t2 a1 a2 b1 b2 l1 c1 l2 c2 N1 N2 (sum5 (wA .u8 (128+l2) (maskL (bL (wA .u8 128 (key5 N1)) 0 128) 54 ++ N2)) 0 (128+l2)),c,ch⟩) 2000004:=by
  have e2:bytesOf [((wA .u32 64 kL2),g0),((wA .u64 80 kL5),g1),(a1,t1),(a2,t2),((wA .u8 64 []),(29,(0,0))),((wA .u8 128 (key5 N1)),(53,(0,0)))] b2 l2=N2:=(BytesOk.app (x:= [_,_]) ht).2.trans hN2
  have hNl:N2.length=l2:=by rw[← hN2];exact ht.len
  have hbt:∀ x ∈ maskL (bL (wA .u8 128 (key5 N1)) 0 128) 54 ++ N2,0≤x∧x<256:=app_bt maskL_bt (by rw[← hN2];exact ht.bt)
  refine(runs_ev mixed _ (hb2p_0 g0 g1 t1 t2 a1 a2 b1 b2 l1 c1 l2 c2 N1 N2 j) ⟨⟨⟨⟨⟨trivial,trivial⟩,trivial⟩,⟨(by subst hN1;exact bytes_wA (key5_bt hk.bt)),by decide,(BytesOk.app (x:= [_,_]) ht).1,by omega⟩⟩,⟨rfl,rfl,by rw[e2];exact bytes_wA hbt,by rw[wA_size];omega,by omega,by omega⟩⟩,(wA_one _ _ _)⟩).mono ?_
  rintro e s ⟨rfl,hs⟩
  refine⟨rfl,fun q=>s.tm.getD q undef,s.c,s.ch,(sum5_sh (bytes_wA hbt) (by omega)).trans (congrArg sh5 (bL_wA (by simp only[List.length_append,maskL_len,bL_len];omega))),?_⟩
  subst hs
  rw[e2]
  kernel_rfl
abbrev hbE_s (g0 g1 t1 t2:Tq) (a1 a2:Array Value) (b1 b2:Option Addr) (l1 c1 l2 c2:Nat) (N1 N2:List Int) (S X:List Int) (j:Nat→Value):List Value:=(J j 0 4 ++ ([.pointer (some ⟨4,0,none⟩)] ++ (J j 5 12)))
abbrev hbE_m (g0 g1 t1 t2:Tq) (a1 a2:Array Value) (b1 b2:Option Addr) (l1 c1 l2 c2:Nat) (N1 N2:List Int) (S X:List Int):List Mb:= [((wA .u32 64 kL2),g0),((wA .u64 80 kL5),g1),(a1,t1),(a2,t2),((wA .u8 64 X),(29,(0,0))),((wA .u8 128 (key5 N1)),(53,(0,0))),((wA .u8 (128+l2) (maskL (bL (wA .u8 128 (key5 N1)) 0 128) 54 ++ N2)),(5,(0,0))),((wA .u8 64 S),(29,(0,0))),((wA .u8 192 (maskL (bL (wA .u8 128 (key5 N1)) 0 128) 92 ++ bL (wA .u8 64 S) 0 64)),(5,(0,0)))]
def hb3p_h (i:Nat):Hn:=if i=3 then⟨0,[(0,true),(1,true),(2,false),(3,false),(4,false)],[],[0,1,2,3,5,6,7],[]⟩ else⟨0,[],[],[],[]⟩
def hb3p_b (g0 g1 t1 t2:Tq) (a1 a2:Array Value) (b1 b2:Option Addr) (l1 c1 l2 c2:Nat) (N1 N2:List Int) (S:List Int) (j:Nat→Value):List Value:=(J j 0 4 ++ ([.pointer (some ⟨4,0,none⟩),.pointer (some ⟨5,0,none⟩),.pointer (some ⟨7,0,none⟩)] ++ (J j 7 6 ++ ([.slice (some ⟨5,0,none⟩) 128 128,.slice (some ⟨7,0,none⟩) 64 64,.slice (some ⟨8,0,none⟩) 192 192,.agg (wA .u8 64 (sum5 (wA .u8 192 (maskL (bL (wA .u8 128 (key5 N1)) 0 128) 92 ++ (bL (wA .u8 64 S) 0 64))) 0 192))]))))
theorem hb3p_0 (g0 g1 t1 t2:Tq) (a1 a2:Array Value) (b1 b2:Option Addr) (l1 c1 l2 c2:Nat) (N1 N2:List Int) (S:List Int) (j:Nat→Value):evC (yty.enm tabM1 [mMask] 2000004) hb3p_h (cAt [1,1,1] (bdy Tryd.f16)) ⟨hbD_s g0 g1 t1 t2 a1 a2 b1 b2 l1 c1 l2 c2 N1 N2 S j,hbD_m g0 g1 t1 t2 a1 a2 b1 b2 l1 c1 l2 c2 N1 N2 S,True,[]⟩=some (.ret,⟨hb3p_b g0 g1 t1 t2 a1 a2 b1 b2 l1 c1 l2 c2 N1 N2 S j,[((wA .u32 64 kL2),g0),((wA .u64 80 kL5),g1),(a1,t1),(a2,t2),((wA .u8 64 (sum5 (wA .u8 192 (maskL (bL (wA .u8 128 (key5 N1)) 0 128) 92 ++ (bL (wA .u8 64 S) 0 64))) 0 192)),(29,(0,0))),((wA .u8 128 (key5 N1)),(53,(0,0))),((wA .u8 (128+l2) (maskL (bL (wA .u8 128 (key5 N1)) 0 128) 54 ++ N2)),(5,(0,0))),((wA .u8 64 S),(29,(0,0))),((wA .u8 192 (maskL (bL (wA .u8 128 (key5 N1)) 0 128) 92 ++ (bL (wA .u8 64 S) 0 64))),(5,(0,0)))],(((((True∧True)∧True)∧(bytesAt (wA .u8 128 (key5 N1)) 0 128∧128≤1000000000∧BytesOk [((wA .u32 64 kL2),g0),((wA .u64 80 kL5),g1),(a1,t1),(a2,t2),((wA .u8 64 []),(29,(0,0))),((wA .u8 128 (key5 N1)),(53,(0,0))),((wA .u8 (128+l2) (maskL (bL (wA .u8 128 (key5 N1)) 0 128) 54 ++ N2)),(5,(0,0))),((wA .u8 64 S),(29,(0,0)))] (some ⟨7,0,none⟩) 64 64∧64≤1000000000))∧((wA .u32 64 kL2)=wA .u32 64 kL2∧(wA .u64 80 kL5)=wA .u64 80 kL5∧bytesAt (wA .u8 192 (maskL (bL (wA .u8 128 (key5 N1)) 0 128) 92 ++ (bL (wA .u8 64 S) 0 64))) 0 192∧0+192≤(wA .u8 192 (maskL (bL (wA .u8 128 (key5 N1)) 0 128) 92 ++ (bL (wA .u8 64 S) 0 64))).size∧192≤192∧192<1152921504606846976))∧((wA .u8 64 (sum5 (wA .u8 192 (maskL (bL (wA .u8 128 (key5 N1)) 0 128) 92 ++ (bL (wA .u8 64 S) 0 64))) 0 192)).all (fun v=>v.oneCell')=true)),[]⟩):=by kernel_rfl
theorem hb3 (g0 g1 t1 t2:Tq) (a1 a2:Array Value) (b1 b2:Option Addr) (l1 c1 l2 c2:Nat) (N1 N2:List Int) (S:List Int) (j:Nat→Value) (hk:BytesOk [(wA .u32 64 kL2,g0),(wA .u64 80 kL5,g1),(a1,t1),(a2,t2)] b1 l1 c1) (hN1:bytesOf [(wA .u32 64 kL2,g0),(wA .u64 80 kL5,g1),(a1,t1),(a2,t2)] b1 l1=N1) (ht:BytesOk [(wA .u32 64 kL2,g0),(wA .u64 80 kL5,g1),(a1,t1),(a2,t2)] b2 l2 c2) (hN2:bytesOf [(wA .u32 64 kL2,g0),(wA .u64 80 kL5,g1),(a1,t1),(a2,t2)] b2 l2=N2) (hl:l1≤100000000∧l2≤100000000) (hS:S=sh5 (maskL (bL (wA .u8 128 (key5 N1)) 0 128) 54 ++ N2))  {c0:Prop} {ch0:List (Option Value)}:Runs Tryd.prog (cAt [1,1,1] (bdy Tryd.f16)) ⟨hbD_s g0 g1 t1 t2 a1 a2 b1 b2 l1 c1 l2 c2 N1 N2 S j,hbD_m g0 g1 t1 t2 a1 a2 b1 b2 l1 c1 l2 c2 N1 N2 S,c0,ch0⟩ (fun e s=>e= .ret∧∃(j:Nat→Value) (c:Prop) (ch:List (Option Value)),((sum5 (wA .u8 192 (maskL (bL (wA .u8 128 (key5 N1)) 0 128) 92 ++ bL (wA .u8 64 S) 0 64)) 0 192)=hmac5 N1 N2)∧s=⟨hbE_s g0 g1 t1 t2 a1 a2 b1 b2 l1 c1 l2 c2 N1 N2 S (sum5 (wA .u8 192 (maskL (bL (wA .u8 128 (key5 N1)) 0 128) 92 ++ bL (wA .u8 64 S) 0 64)) 0 192) j,hbE_m g0 g1 t1 t2 a1 a2 b1 b2 l1 c1 l2 c2 N1 N2 S (sum5 (wA .u8 192 (maskL (bL (wA .u8 128 (key5 N1)) 0 128) 92 ++ bL (wA .u8 64 S) 0 64)) 0 192),c,ch⟩) 2000004:=by
  refine(runs_ev mixed _ (hb3p_0 g0 g1 t1 t2 a1 a2 b1 b2 l1 c1 l2 c2 N1 N2 S j) ⟨⟨⟨⟨⟨trivial,trivial⟩,trivial⟩,⟨(by subst hN1;exact bytes_wA (key5_bt hk.bt)),by decide,.inr ⟨7,0,_,_,rfl,rfl,(by rw[hS];exact bytes_wA (sh5_bt _)),by rw[wA_size];decide,by decide⟩,by decide⟩⟩,⟨rfl,rfl,bytes_wA (app_bt maskL_bt (bL_bt (by rw[hS];exact bytes_wA (sh5_bt _)))),by rw[wA_size];decide,by decide,by decide⟩⟩,(wA_one _ _ _)⟩).mono ?_
  rintro e s ⟨rfl,hs⟩
  refine⟨rfl,fun q=>s.tm.getD q undef,s.c,s.ch,(sum5_sh (bytes_wA (app_bt maskL_bt (bL_bt (by rw[hS];exact bytes_wA (sh5_bt _))))) (by decide)).trans (by rw[bL_wA (by simp only[List.length_append,maskL_len,bL_len]),bL_wA (n:=64) (L:=S) (by rw[hS];exact sh5_len _),hS];rfl),?_⟩
  subst hs
  kernel_rfl
theorem hbu (g0 g1 t1 t2:Tq) (a1 a2:Array Value) (b1 b2:Option Addr) (l1 c1 l2 c2:Nat) (N1 N2:List Int) (j:Nat→Value) (hk:BytesOk [(wA .u32 64 kL2,g0),(wA .u64 80 kL5,g1),(a1,t1),(a2,t2)] b1 l1 c1) (hN1:bytesOf [(wA .u32 64 kL2,g0),(wA .u64 80 kL5,g1),(a1,t1),(a2,t2)] b1 l1=N1) (ht:BytesOk [(wA .u32 64 kL2,g0),(wA .u64 80 kL5,g1),(a1,t1),(a2,t2)] b2 l2 c2) (hN2:bytesOf [(wA .u32 64 kL2,g0),(wA .u64 80 kL5,g1),(a1,t1),(a2,t2)] b2 l2=N2) (hl:l1≤100000000∧l2≤100000000)  {c0:Prop} {ch0:List (Option Value)}:Runs Tryd.prog (cAt [] (bdy Tryd.f16)) ⟨hbA_s g0 g1 t1 t2 a1 a2 b1 b2 l1 c1 l2 c2 N1 N2 j,hbA_m g0 g1 t1 t2 a1 a2 b1 b2 l1 c1 l2 c2 N1 N2,c0,ch0⟩ (fun e s=>e= .ret∧∃(j:Nat→Value) (c:Prop) (ch:List (Option Value)),((sum5 (wA .u8 (128+l2) (maskL (bL (wA .u8 128 (key5 N1)) 0 128) 54 ++ N2)) 0 (128+l2))=sh5 (maskL (bL (wA .u8 128 (key5 N1)) 0 128) 54 ++ N2))∧((sum5 (wA .u8 192 (maskL (bL (wA .u8 128 (key5 N1)) 0 128) 92 ++ bL (wA .u8 64 (sum5 (wA .u8 (128+l2) (maskL (bL (wA .u8 128 (key5 N1)) 0 128) 54 ++ N2)) 0 (128+l2))) 0 64)) 0 192)=hmac5 N1 N2)∧s=⟨hbE_s g0 g1 t1 t2 a1 a2 b1 b2 l1 c1 l2 c2 N1 N2 (sum5 (wA .u8 (128+l2) (maskL (bL (wA .u8 128 (key5 N1)) 0 128) 54 ++ N2)) 0 (128+l2)) (sum5 (wA .u8 192 (maskL (bL (wA .u8 128 (key5 N1)) 0 128) 92 ++ bL (wA .u8 64 (sum5 (wA .u8 (128+l2) (maskL (bL (wA .u8 128 (key5 N1)) 0 128) 54 ++ N2)) 0 (128+l2))) 0 64)) 0 192) j,hbE_m g0 g1 t1 t2 a1 a2 b1 b2 l1 c1 l2 c2 N1 N2 (sum5 (wA .u8 (128+l2) (maskL (bL (wA .u8 128 (key5 N1)) 0 128) 54 ++ N2)) 0 (128+l2)) (sum5 (wA .u8 192 (maskL (bL (wA .u8 128 (key5 N1)) 0 128) 92 ++ bL (wA .u8 64 (sum5 (wA .u8 (128+l2) (maskL (bL (wA .u8 128 (key5 N1)) 0 128) 54 ++ N2)) 0 (128+l2))) 0 64)) 0 192),c,ch⟩) 2000004:=by
  rw[show(cAt [] (bdy Tryd.f16))=(.seq (cAt [0] (bdy Tryd.f16)) (.seq (cAt [1,0] (bdy Tryd.f16)) (.seq (cAt [1,1,0] (bdy Tryd.f16)) (cAt [1,1,1] (bdy Tryd.f16))))) from by kernel_rfl]
  refine runs_seq (hb0 g0 g1 t1 t2 a1 a2 b1 b2 l1 c1 l2 c2 N1 N2 j hk hN1 ht hN2 hl ) (fun s hh=> ?_) (fun e s hne hh=>absurd hh.1 hne)
  obtain⟨_,j,c,ch,rfl⟩:=hh
  refine runs_seq (hb1 g0 g1 t1 t2 a1 a2 b1 b2 l1 c1 l2 c2 N1 N2 j hk hN1 ht hN2 hl ) (fun s hh=> ?_) (fun e s hne hh=>absurd hh.1 hne)
  obtain⟨_,j,c,ch,rfl⟩:=hh
  refine runs_seq (hb2 g0 g1 t1 t2 a1 a2 b1 b2 l1 c1 l2 c2 N1 N2 j hk hN1 ht hN2 hl ) (fun s hh=> ?_) (fun e s hne hh=>absurd hh.1 hne)
  obtain⟨_,j,c,ch,f2_5,rfl⟩:=hh
  refine(hb3 g0 g1 t1 t2 a1 a2 b1 b2 l1 c1 l2 c2 N1 N2 (sum5 (wA .u8 (128+l2) (maskL (bL (wA .u8 128 (key5 N1)) 0 128) 54 ++ N2)) 0 (128+l2)) j hk hN1 ht hN2 hl f2_5 ).mono ?_
  rintro e s ⟨rfl,j,c,ch,f3_6,rfl⟩
  exact⟨rfl,j,c,ch,f2_5,f3_6,rfl⟩
theorem Hmac5_c (g0 g1 t1 t2:Tq) (a1 a2:Array Value) (b1 b2:Option Addr) (l1 c1 l2 c2:Nat) (hk:BytesOk [(wA .u32 64 kL2,g0),(wA .u64 80 kL5,g1),(a1,t1),(a2,t2)] b1 l1 c1) (ht:BytesOk [(wA .u32 64 kL2,g0),(wA .u64 80 kL5,g1),(a1,t1),(a2,t2)] b2 l2 c2) (hl:l1≤100000000∧l2≤100000000):Reads Tryd.prog 16 [(wA .u32 64 kL2,g0),(wA .u64 80 kL5,g1),(a1,t1),(a2,t2)] [.slice b1 l1 c1,.slice b2 l2 c2] (.agg (wA .u8 64 (hmac5 (bytesOf [(wA .u32 64 kL2,g0),(wA .u64 80 kL5,g1),(a1,t1),(a2,t2)] b1 l1) (bytesOf [(wA .u32 64 kL2,g0),(wA .u64 80 kL5,g1),(a1,t1),(a2,t2)] b2 l2)))) 2:=by
  refine reads_runs (fk:=2000004) (yty.enm tabM1 [mMask] 2000004) Tryd.func16 (c:=bdy Tryd.f16) (by kernel_rfl) ⟨len4 _ _ _ _,by decide⟩ (args:= [.slice b1 l1 c1,.slice b2 l2 c2]) (by show(Go.Ev.okp 4 (.slice b1 l1 c1) && (Go.Ev.okp 4 (.slice b2 l2 c2) && true))=true;rw[show Go.Ev.okp 4 (.slice b1 l1 c1)=true from hk.okp,show Go.Ev.okp 4 (.slice b2 l2 c2)=true from ht.okp];rfl) (K:=fun e s=>e= .ret∧resS (yty.enm tabM1 [mMask] 2000004) s Tryd.f16.results.toList=some [.agg (wA .u8 64 (hmac5 (bytesOf [(wA .u32 64 kL2,g0),(wA .u64 80 kL5,g1),(a1,t1),(a2,t2)] b1 l1) (bytesOf [(wA .u32 64 kL2,g0),(wA .u64 80 kL5,g1),(a1,t1),(a2,t2)] b2 l2)))]) ?_ (fun e s h=>⟨h.1,_,h.2,rfl⟩)
  generalize h1:bytesOf [(wA .u32 64 kL2,g0),(wA .u64 80 kL5,g1),(a1,t1),(a2,t2)] b1 l1=N1
  generalize h2:bytesOf [(wA .u32 64 kL2,g0),(wA .u64 80 kL5,g1),(a1,t1),(a2,t2)] b2 l2=N2
  refine(hbu g0 g1 t1 t2 a1 a2 b1 b2 l1 c1 l2 c2 N1 N2 (fun _=>undef) hk h1 ht h2 hl).mono ?_
  rintro e s ⟨rfl,hh⟩
  obtain⟨j,c,ch,hS,hX,rfl⟩:=hh
  rw[← hX]
  exact⟨rfl,by kernel_rfl⟩
def pHa2 : Entry Tryd.prog where
  f:=15
  ng:=2
  g := fun mem xs => match xs with
    | [.slice bp l cp, .slice bq m cq] => (match mem[0]?, mem[1]? with
      |some (x0,_),some (x1,_)=>some (.agg (wA .u8 32 (hmac2 (bytesOf mem bp l) (bytesOf mem bq m))),(x0=wA .u32 64 kL2∧x1=wA .u64 80 kL5∧BytesOk mem bp l cp∧BytesOk mem bq m cq∧l≤100000000∧m≤100000000))
      |_,_=>none)
    |_=>none
  ok := fun mem xs v c e hc w β hw hg => by
    split at e
    · rename_i bp l cp bq m cq
      split at e
      · rename_i x0 g0 x1 g1 h0 h1
        simp only[Option.some.injEq,Prod.mk.injEq] at e
        obtain⟨rfl,rfl⟩:=e
        obtain⟨rfl,rfl,hB,hC,hl,hm⟩:=hc
        refine lift2 (post:= []) rfl hB hC h0 h1 (fun y z q r h2 h3 h4 h5=> ?_) hw (hg 0 (by decide)) (hg 1 (by decide))
        rw[← h3,← h5]
        exact Hmac2_c g0 g1 y.2 z.2 y.1 z.1 q r l cp m cq h2 h4 ⟨hl,hm⟩
      · cases e
    · cases e
  call:=call_of Tryd.func15 (by kernel_rfl) (by kernel_rfl)
def pHa5 : Entry Tryd.prog where
  f:=16
  ng:=2
  g := fun mem xs => match xs with
    | [.slice bp l cp, .slice bq m cq] => (match mem[0]?, mem[1]? with
      |some (x0,_),some (x1,_)=>some (.agg (wA .u8 64 (hmac5 (bytesOf mem bp l) (bytesOf mem bq m))),(x0=wA .u32 64 kL2∧x1=wA .u64 80 kL5∧BytesOk mem bp l cp∧BytesOk mem bq m cq∧l≤100000000∧m≤100000000))
      |_,_=>none)
    |_=>none
  ok := fun mem xs v c e hc w β hw hg => by
    split at e
    · rename_i bp l cp bq m cq
      split at e
      · rename_i x0 g0 x1 g1 h0 h1
        simp only[Option.some.injEq,Prod.mk.injEq] at e
        obtain⟨rfl,rfl⟩:=e
        obtain⟨rfl,rfl,hB,hC,hl,hm⟩:=hc
        refine lift2 (post:= []) rfl hB hC h0 h1 (fun y z q r h2 h3 h4 h5=> ?_) hw (hg 0 (by decide)) (hg 1 (by decide))
        rw[← h3,← h5]
        exact Hmac5_c g0 g1 y.2 z.2 y.1 z.1 q r l cp m cq h2 h4 ⟨hl,hm⟩
      · cases e
    · cases e
  call:=call_of Tryd.func16 (by kernel_rfl) (by kernel_rfl)
def tabM2:List (Entry Tryd.prog):=pHa2 :: pHa5 :: tabM1
end Go.Proofs.YtmpjlammofgicaaDoor

set_option linter.unusedSimpArgs false
set_option linter.unusedVariables false
/-! mac: Jefe's. -/
namespace Go.Proofs.YtmpjlammofgicaaDoor
open Go.RowKit Go.Ev
def jS0:ByteArray:=⟨#[91,220,193,70,191,96,117,78]⟩
def jS1:ByteArray:=⟨#[22,75,122,123,252,248,25,226]⟩
theorem jefe2:hmac2 (bL (wA .u8 4 [74,101,102,101]) 0 4) (bL (wA .u8 28 [119,104,97,116,32,100,111,32,121,97,32,119,97,110,116,32,102,111,114,32,110,111,116,104,105,110,103,63]) 0 28)= [91,220,193,70,191,96,117,78,106,4,36,38,8,149,117,199,90,0,63,8,157,39,57,131,157,236,88,185,100,236,56,67]:=by kernel_rfl
theorem jefe5:hmac5 (bL (wA .u8 4 [74,101,102,101]) 0 4) (bL (wA .u8 28 [119,104,97,116,32,100,111,32,121,97,32,119,97,110,116,32,102,111,114,32,110,111,116,104,105,110,103,63]) 0 28)= [22,75,122,123,252,248,25,226,227,149,251,231,59,86,224,163,135,189,100,34,46,131,31,214,16,39,12,215,234,37,5,84,151,88,191,117,192,90,153,74,109,3,79,101,248,240,230,253,202,234,177,163,77,74,107,75,99,110,7,10,56,188,231,55]:=by kernel_rfl
abbrev jfA_s (g0 g1:Tq) (j:Nat→Value):List Value:=(JU 21)
abbrev jfA_m (g0 g1:Tq):List Mb:= [((wA .u32 64 kL2),g0),((wA .u64 80 kL5),g1)]
abbrev jfB_s (g0 g1:Tq) (j:Nat→Value):List Value:=([.bool false] ++ (J j 1 20))
abbrev jfB_m (g0 g1:Tq):List Mb:= [((wA .u32 64 kL2),g0),((wA .u64 80 kL5),g1)]
def jf0p_h (i:Nat):Hn:=⟨0,[],[],[],[]⟩
def jf0p_b (g0 g1:Tq) (j:Nat→Value):List Value:=([.bool false] ++ (JU 20))
theorem jf0p_0 (g0 g1:Tq) (j:Nat→Value):evC (yty.enm tabM2 [mMask] 2000002) jf0p_h (cAt [0] (bdy Tryd.f13)) ⟨jfA_s g0 g1 j,jfA_m g0 g1,True,[]⟩=some (.normal,⟨jf0p_b g0 g1 j,[((wA .u32 64 kL2),g0),((wA .u64 80 kL5),g1)],(True∧True),[]⟩):=by kernel_rfl
theorem jf0 (g0 g1:Tq) (j:Nat→Value)   {c0:Prop} {ch0:List (Option Value)}:Runs Tryd.prog (cAt [0] (bdy Tryd.f13)) ⟨jfA_s g0 g1 j,jfA_m g0 g1,c0,ch0⟩ (fun e s=>e= .normal∧∃(j:Nat→Value) (c:Prop) (ch:List (Option Value)),s=⟨jfB_s g0 g1 j,jfB_m g0 g1,c,ch⟩) 2000002:=by
  refine(runs_ev mixed _ (jf0p_0 g0 g1 j) ⟨trivial,trivial⟩).mono ?_
  rintro e s ⟨rfl,hs⟩
  refine⟨rfl,fun q=>s.tm.getD q undef,s.c,s.ch,?_⟩
  subst hs
  kernel_rfl
abbrev jfC_s (g0 g1:Tq) (S:List Int) (j:Nat→Value):List Value:=([j 0,.pointer (some ⟨4,0,none⟩)] ++ (J j 2 19))
abbrev jfC_m (g0 g1:Tq) (S:List Int):List Mb:= [((wA .u32 64 kL2),g0),((wA .u64 80 kL5),g1),((wA .u8 4 [74,101,102,101]),(5,(4,5))),((wA .u8 28 [119,104,97,116,32,100,111,32,121,97,32,119,97,110,116,32,102,111,114,32,110,111,116,104,105,110,103,63]),(5,(28,29))),((wA .u8 32 S),(25,(0,0)))]
def jf1p_h (i:Nat):Hn:=⟨0,[],[],[],[]⟩
def jf1p_b (g0 g1:Tq) (j:Nat→Value):List Value:=([.bool false,.pointer (some ⟨4,0,none⟩),j 2,.slice (some ⟨2,0,none⟩) 4 4,.slice (some ⟨2,0,none⟩) 4 4,.slice (some ⟨3,0,none⟩) 28 28,.slice (some ⟨3,0,none⟩) 28 28,.agg (wA .u8 32 (hmac2 (bL (wA .u8 4 [74,101,102,101]) 0 4) (bL (wA .u8 28 [119,104,97,116,32,100,111,32,121,97,32,119,97,110,116,32,102,111,114,32,110,111,116,104,105,110,103,63]) 0 28)))] ++ (J j 8 13))
theorem jf1p_0 (g0 g1:Tq) (j:Nat→Value):evC (yty.enm tabM2 [mMask] 2000002) jf1p_h (cAt [1,0] (bdy Tryd.f13)) ⟨jfB_s g0 g1 j,jfB_m g0 g1,True,[]⟩=some (.normal,⟨jf1p_b g0 g1 j,[((wA .u32 64 kL2),g0),((wA .u64 80 kL5),g1),((wA .u8 4 [74,101,102,101]),(5,(4,5))),((wA .u8 28 [119,104,97,116,32,100,111,32,121,97,32,119,97,110,116,32,102,111,114,32,110,111,116,104,105,110,103,63]),(5,(28,29))),((wA .u8 32 (hmac2 (bL (wA .u8 4 [74,101,102,101]) 0 4) (bL (wA .u8 28 [119,104,97,116,32,100,111,32,121,97,32,119,97,110,116,32,102,111,114,32,110,111,116,104,105,110,103,63]) 0 28))),(25,(0,0)))],((True∧((wA .u32 64 kL2)=wA .u32 64 kL2∧(wA .u64 80 kL5)=wA .u64 80 kL5∧BytesOk [((wA .u32 64 kL2),g0),((wA .u64 80 kL5),g1),((wA .u8 4 [74,101,102,101]),(5,(4,5))),((wA .u8 28 [119,104,97,116,32,100,111,32,121,97,32,119,97,110,116,32,102,111,114,32,110,111,116,104,105,110,103,63]),(5,(28,29)))] (some ⟨2,0,none⟩) 4 4∧BytesOk [((wA .u32 64 kL2),g0),((wA .u64 80 kL5),g1),((wA .u8 4 [74,101,102,101]),(5,(4,5))),((wA .u8 28 [119,104,97,116,32,100,111,32,121,97,32,119,97,110,116,32,102,111,114,32,110,111,116,104,105,110,103,63]),(5,(28,29)))] (some ⟨3,0,none⟩) 28 28∧4≤100000000∧28≤100000000))∧((wA .u8 32 (hmac2 (bL (wA .u8 4 [74,101,102,101]) 0 4) (bL (wA .u8 28 [119,104,97,116,32,100,111,32,121,97,32,119,97,110,116,32,102,111,114,32,110,111,116,104,105,110,103,63]) 0 28))).all (fun v=>v.oneCell')=true)),[]⟩):=by kernel_rfl
theorem jf1 (g0 g1:Tq) (j:Nat→Value)   {c0:Prop} {ch0:List (Option Value)}:Runs Tryd.prog (cAt [1,0] (bdy Tryd.f13)) ⟨jfB_s g0 g1 j,jfB_m g0 g1,c0,ch0⟩ (fun e s=>e= .normal∧∃(j:Nat→Value) (c:Prop) (ch:List (Option Value)),((hmac2 (bL (wA .u8 4 [74,101,102,101]) 0 4) (bL (wA .u8 28 [119,104,97,116,32,100,111,32,121,97,32,119,97,110,116,32,102,111,114,32,110,111,116,104,105,110,103,63]) 0 28))= [91,220,193,70,191,96,117,78,106,4,36,38,8,149,117,199,90,0,63,8,157,39,57,131,157,236,88,185,100,236,56,67])∧s=⟨jfC_s g0 g1 (hmac2 (bL (wA .u8 4 [74,101,102,101]) 0 4) (bL (wA .u8 28 [119,104,97,116,32,100,111,32,121,97,32,119,97,110,116,32,102,111,114,32,110,111,116,104,105,110,103,63]) 0 28)) j,jfC_m g0 g1 (hmac2 (bL (wA .u8 4 [74,101,102,101]) 0 4) (bL (wA .u8 28 [119,104,97,116,32,100,111,32,121,97,32,119,97,110,116,32,102,111,114,32,110,111,116,104,105,110,103,63]) 0 28)),c,ch⟩) 2000002:=by
  refine(runs_ev mixed _ (jf1p_0 g0 g1 j) ⟨⟨trivial,⟨rfl,rfl,(.inr ⟨2,0,_,_,rfl,rfl,bytes_wA (by decide),by rw[wA_size];decide,by decide⟩),(.inr ⟨3,0,_,_,rfl,rfl,bytes_wA (by decide),by rw[wA_size];decide,by decide⟩),by decide,by decide⟩⟩,(wA_one _ _ _)⟩).mono ?_
  rintro e s ⟨rfl,hs⟩
  refine⟨rfl,fun q=>s.tm.getD q undef,s.c,s.ch,jefe2,?_⟩
  subst hs
  kernel_rfl
abbrev jfD_s (g0 g1:Tq) (S X:List Int) (j:Nat→Value):List Value:=([j 0,.pointer (some ⟨4,0,none⟩),.pointer (some ⟨7,0,none⟩)] ++ (J j 3 18))
abbrev jfD_m (g0 g1:Tq) (S X:List Int):List Mb:= [((wA .u32 64 kL2),g0),((wA .u64 80 kL5),g1),((wA .u8 4 [74,101,102,101]),(5,(4,5))),((wA .u8 28 [119,104,97,116,32,100,111,32,121,97,32,119,97,110,116,32,102,111,114,32,110,111,116,104,105,110,103,63]),(5,(28,29))),((wA .u8 32 S),(25,(0,0))),((wA .u8 4 [74,101,102,101]),(5,(4,5))),((wA .u8 28 [119,104,97,116,32,100,111,32,121,97,32,119,97,110,116,32,102,111,114,32,110,111,116,104,105,110,103,63]),(5,(28,29))),((wA .u8 64 X),(29,(0,0)))]
def jf2p_h (i:Nat):Hn:=⟨0,[],[],[],[]⟩
def jf2p_b (g0 g1:Tq) (S:List Int) (j:Nat→Value):List Value:=([j 0,.pointer (some ⟨4,0,none⟩),.pointer (some ⟨7,0,none⟩)] ++ (J j 3 5 ++ ([.slice (some ⟨5,0,none⟩) 4 4,.slice (some ⟨5,0,none⟩) 4 4,.slice (some ⟨6,0,none⟩) 28 28,.slice (some ⟨6,0,none⟩) 28 28,.agg (wA .u8 64 (hmac5 (bL (wA .u8 4 [74,101,102,101]) 0 4) (bL (wA .u8 28 [119,104,97,116,32,100,111,32,121,97,32,119,97,110,116,32,102,111,114,32,110,111,116,104,105,110,103,63]) 0 28)))] ++ (J j 13 8))))
theorem jf2p_0 (g0 g1:Tq) (S:List Int) (j:Nat→Value):evC (yty.enm tabM2 [mMask] 2000002) jf2p_h (cAt [1,1,0] (bdy Tryd.f13)) ⟨jfC_s g0 g1 S j,jfC_m g0 g1 S,True,[]⟩=some (.normal,⟨jf2p_b g0 g1 S j,[((wA .u32 64 kL2),g0),((wA .u64 80 kL5),g1),((wA .u8 4 [74,101,102,101]),(5,(4,5))),((wA .u8 28 [119,104,97,116,32,100,111,32,121,97,32,119,97,110,116,32,102,111,114,32,110,111,116,104,105,110,103,63]),(5,(28,29))),((wA .u8 32 S),(25,(0,0))),((wA .u8 4 [74,101,102,101]),(5,(4,5))),((wA .u8 28 [119,104,97,116,32,100,111,32,121,97,32,119,97,110,116,32,102,111,114,32,110,111,116,104,105,110,103,63]),(5,(28,29))),((wA .u8 64 (hmac5 (bL (wA .u8 4 [74,101,102,101]) 0 4) (bL (wA .u8 28 [119,104,97,116,32,100,111,32,121,97,32,119,97,110,116,32,102,111,114,32,110,111,116,104,105,110,103,63]) 0 28))),(29,(0,0)))],((True∧((wA .u32 64 kL2)=wA .u32 64 kL2∧(wA .u64 80 kL5)=wA .u64 80 kL5∧BytesOk [((wA .u32 64 kL2),g0),((wA .u64 80 kL5),g1),((wA .u8 4 [74,101,102,101]),(5,(4,5))),((wA .u8 28 [119,104,97,116,32,100,111,32,121,97,32,119,97,110,116,32,102,111,114,32,110,111,116,104,105,110,103,63]),(5,(28,29))),((wA .u8 32 S),(25,(0,0))),((wA .u8 4 [74,101,102,101]),(5,(4,5))),((wA .u8 28 [119,104,97,116,32,100,111,32,121,97,32,119,97,110,116,32,102,111,114,32,110,111,116,104,105,110,103,63]),(5,(28,29)))] (some ⟨5,0,none⟩) 4 4∧BytesOk [((wA .u32 64 kL2),g0),((wA .u64 80 kL5),g1),((wA .u8 4 [74,101,102,101]),(5,(4,5))),((wA .u8 28 [119,104,97,116,32,100,111,32,121,97,32,119,97,110,116,32,102,111,114,32,110,111,116,104,105,110,103,63]),(5,(28,29))),((wA .u8 32 S),(25,(0,0))),((wA .u8 4 [74,101,102,101]),(5,(4,5))),((wA .u8 28 [119,104,97,116,32,100,111,32,121,97,32,119,97,110,116,32,102,111,114,32,110,111,116,104,105,110,103,63]),(5,(28,29)))] (some ⟨6,0,none⟩) 28 28∧4≤100000000∧28≤100000000))∧((wA .u8 64 (hmac5 (bL (wA .u8 4 [74,101,102,101]) 0 4) (bL (wA .u8 28 [119,104,97,116,32,100,111,32,121,97,32,119,97,110,116,32,102,111,114,32,110,111,116,104,105,110,103,63]) 0 28))).all (fun v=>v.oneCell')=true)),[]⟩):=by kernel_rfl
theorem jf2 (g0 g1:Tq) (S:List Int) (j:Nat→Value) (hS:S= [91,220,193,70,191,96,117,78,106,4,36,38,8,149,117,199,90,0,63,8,157,39,57,131,157,236,88,185,100,236,56,67])  {c0:Prop} {ch0:List (Option Value)}:Runs Tryd.prog (cAt [1,1,0] (bdy Tryd.f13)) ⟨jfC_s g0 g1 S j,jfC_m g0 g1 S,c0,ch0⟩ (fun e s=>e= .normal∧∃(j:Nat→Value) (c:Prop) (ch:List (Option Value)),((hmac5 (bL (wA .u8 4 [74,101,102,101]) 0 4) (bL (wA .u8 28 [119,104,97,116,32,100,111,32,121,97,32,119,97,110,116,32,102,111,114,32,110,111,116,104,105,110,103,63]) 0 28))= [22,75,122,123,252,248,25,226,227,149,251,231,59,86,224,163,135,189,100,34,46,131,31,214,16,39,12,215,234,37,5,84,151,88,191,117,192,90,153,74,109,3,79,101,248,240,230,253,202,234,177,163,77,74,107,75,99,110,7,10,56,188,231,55])∧s=⟨jfD_s g0 g1 S (hmac5 (bL (wA .u8 4 [74,101,102,101]) 0 4) (bL (wA .u8 28 [119,104,97,116,32,100,111,32,121,97,32,119,97,110,116,32,102,111,114,32,110,111,116,104,105,110,103,63]) 0 28)) j,jfD_m g0 g1 S (hmac5 (bL (wA .u8 4 [74,101,102,101]) 0 4) (bL (wA .u8 28 [119,104,97,116,32,100,111,32,121,97,32,119,97,110,116,32,102,111,114,32,110,111,116,104,105,110,103,63]) 0 28)),c,ch⟩) 2000002:=by
  refine(runs_ev mixed _ (jf2p_0 g0 g1 S j) ⟨⟨trivial,⟨rfl,rfl,(.inr ⟨5,0,_,_,rfl,rfl,bytes_wA (by decide),by rw[wA_size];decide,by decide⟩),(.inr ⟨6,0,_,_,rfl,rfl,bytes_wA (by decide),by rw[wA_size];decide,by decide⟩),by decide,by decide⟩⟩,(wA_one _ _ _)⟩).mono ?_
  rintro e s ⟨rfl,hs⟩
  refine⟨rfl,fun q=>s.tm.getD q undef,s.c,s.ch,jefe5,?_⟩
  subst hs
  kernel_rfl
abbrev jfE_s (g0 g1:Tq) (S X:List Int) (j:Nat→Value):List Value:=([.bool true] ++ (J j 1 20))
abbrev jfE_m (g0 g1:Tq) (S X:List Int):List Mb:= [((wA .u32 64 kL2),g0),((wA .u64 80 kL5),g1),((wA .u8 4 [74,101,102,101]),(5,(4,5))),((wA .u8 28 [119,104,97,116,32,100,111,32,121,97,32,119,97,110,116,32,102,111,114,32,110,111,116,104,105,110,103,63]),(5,(28,29))),((wA .u8 32 S),(25,(0,0))),((wA .u8 4 [74,101,102,101]),(5,(4,5))),((wA .u8 28 [119,104,97,116,32,100,111,32,121,97,32,119,97,110,116,32,102,111,114,32,110,111,116,104,105,110,103,63]),(5,(28,29))),((wA .u8 64 X),(29,(0,0)))]
def jf3p_h (i:Nat):Hn:=⟨0,[],[],[],[]⟩
def jf3p_b (g0 g1:Tq) (S X:List Int) (j:Nat→Value):List Value:=([.bool true,.pointer (some ⟨4,0,none⟩),.pointer (some ⟨7,0,none⟩)] ++ (J j 3 10 ++ ([.slice (some ⟨4,0,none⟩) 8 32,.string (bstr ((wA .u8 32 S).extract 0 (0+8))),.bool true,.bool true,.slice (some ⟨7,0,none⟩) 8 64,.string (bstr ((wA .u8 64 X).extract 0 (0+8))),.bool true,.bool true])))
theorem jf3p_0 (g0 g1:Tq) (S X:List Int) (j:Nat→Value):evC (yty.enm tabM2 [mMask] 2000002) jf3p_h (cAt [1,1,1] (bdy Tryd.f13)) ⟨jfD_s g0 g1 S X j,jfD_m g0 g1 S X,True,[some (.bool true),some (.bool true)]⟩=some (.ret,⟨jf3p_b g0 g1 S X j,[((wA .u32 64 kL2),g0),((wA .u64 80 kL5),g1),((wA .u8 4 [74,101,102,101]),(5,(4,5))),((wA .u8 28 [119,104,97,116,32,100,111,32,121,97,32,119,97,110,116,32,102,111,114,32,110,111,116,104,105,110,103,63]),(5,(28,29))),((wA .u8 32 S),(25,(0,0))),((wA .u8 4 [74,101,102,101]),(5,(4,5))),((wA .u8 28 [119,104,97,116,32,100,111,32,121,97,32,119,97,110,116,32,102,111,114,32,110,111,116,104,105,110,103,63]),(5,(28,29))),((wA .u8 64 X),(29,(0,0)))],(((((((((True∧True)∧(((wA .u8 32 S).extract 0 (0+8)).all isB8=true∧0+8≤(wA .u8 32 S).size))∧(True∧(((bstr ((wA .u8 32 S).extract 0 (0+8)))).toList == (jS0).toList)=true))∧True)∧True)∧(((wA .u8 64 X).extract 0 (0+8)).all isB8=true∧0+8≤(wA .u8 64 X).size))∧(True∧(((bstr ((wA .u8 64 X).extract 0 (0+8)))).toList == (jS1).toList)=true))∧True)∧True),[]⟩):=by kernel_rfl
theorem jf3 (g0 g1:Tq) (S X:List Int) (j:Nat→Value) (hS:S= [91,220,193,70,191,96,117,78,106,4,36,38,8,149,117,199,90,0,63,8,157,39,57,131,157,236,88,185,100,236,56,67]) (hX:X= [22,75,122,123,252,248,25,226,227,149,251,231,59,86,224,163,135,189,100,34,46,131,31,214,16,39,12,215,234,37,5,84,151,88,191,117,192,90,153,74,109,3,79,101,248,240,230,253,202,234,177,163,77,74,107,75,99,110,7,10,56,188,231,55])  {c0:Prop} {ch0:List (Option Value)}:Runs Tryd.prog (cAt [1,1,1] (bdy Tryd.f13)) ⟨jfD_s g0 g1 S X j,jfD_m g0 g1 S X,c0,ch0⟩ (fun e s=>e= .ret∧∃(j:Nat→Value) (c:Prop) (ch:List (Option Value)),s=⟨jfE_s g0 g1 S X j,jfE_m g0 g1 S X,c,ch⟩) 2000002:=by
  have h0:(((bstr ((wA .u8 32 S).extract 0 (0+8)))).toList == (jS0).toList)=true:=(by subst hS;exact txt_eq (by kernel_rfl))
  have h1:(((bstr ((wA .u8 64 X).extract 0 (0+8)))).toList == (jS1).toList)=true:=(by subst hX;exact txt_eq (by kernel_rfl))
  refine(runs_ev mixed _ (jf3p_0 g0 g1 S X j) ⟨⟨⟨⟨⟨⟨⟨⟨⟨trivial,trivial⟩,⟨by subst hS;kernel_rfl,by rw[wA_size];decide⟩⟩,⟨trivial,h0⟩⟩,trivial⟩,trivial⟩,⟨by subst hX;kernel_rfl,by rw[wA_size];decide⟩⟩,⟨trivial,h1⟩⟩,trivial⟩,trivial⟩).mono ?_
  rintro e s ⟨rfl,hs⟩
  refine⟨rfl,fun q=>s.tm.getD q undef,s.c,s.ch,?_⟩
  subst hs
  kernel_rfl
theorem jfu (g0 g1:Tq) (j:Nat→Value)   {c0:Prop} {ch0:List (Option Value)}:Runs Tryd.prog (cAt [] (bdy Tryd.f13)) ⟨jfA_s g0 g1 j,jfA_m g0 g1,c0,ch0⟩ (fun e s=>e= .ret∧∃(j:Nat→Value) (c:Prop) (ch:List (Option Value)),((hmac2 (bL (wA .u8 4 [74,101,102,101]) 0 4) (bL (wA .u8 28 [119,104,97,116,32,100,111,32,121,97,32,119,97,110,116,32,102,111,114,32,110,111,116,104,105,110,103,63]) 0 28))= [91,220,193,70,191,96,117,78,106,4,36,38,8,149,117,199,90,0,63,8,157,39,57,131,157,236,88,185,100,236,56,67])∧((hmac5 (bL (wA .u8 4 [74,101,102,101]) 0 4) (bL (wA .u8 28 [119,104,97,116,32,100,111,32,121,97,32,119,97,110,116,32,102,111,114,32,110,111,116,104,105,110,103,63]) 0 28))= [22,75,122,123,252,248,25,226,227,149,251,231,59,86,224,163,135,189,100,34,46,131,31,214,16,39,12,215,234,37,5,84,151,88,191,117,192,90,153,74,109,3,79,101,248,240,230,253,202,234,177,163,77,74,107,75,99,110,7,10,56,188,231,55])∧s=⟨jfE_s g0 g1 (hmac2 (bL (wA .u8 4 [74,101,102,101]) 0 4) (bL (wA .u8 28 [119,104,97,116,32,100,111,32,121,97,32,119,97,110,116,32,102,111,114,32,110,111,116,104,105,110,103,63]) 0 28)) (hmac5 (bL (wA .u8 4 [74,101,102,101]) 0 4) (bL (wA .u8 28 [119,104,97,116,32,100,111,32,121,97,32,119,97,110,116,32,102,111,114,32,110,111,116,104,105,110,103,63]) 0 28)) j,jfE_m g0 g1 (hmac2 (bL (wA .u8 4 [74,101,102,101]) 0 4) (bL (wA .u8 28 [119,104,97,116,32,100,111,32,121,97,32,119,97,110,116,32,102,111,114,32,110,111,116,104,105,110,103,63]) 0 28)) (hmac5 (bL (wA .u8 4 [74,101,102,101]) 0 4) (bL (wA .u8 28 [119,104,97,116,32,100,111,32,121,97,32,119,97,110,116,32,102,111,114,32,110,111,116,104,105,110,103,63]) 0 28)),c,ch⟩) 2000002:=by
  rw[show(cAt [] (bdy Tryd.f13))=(.seq (cAt [0] (bdy Tryd.f13)) (.seq (cAt [1,0] (bdy Tryd.f13)) (.seq (cAt [1,1,0] (bdy Tryd.f13)) (cAt [1,1,1] (bdy Tryd.f13))))) from by kernel_rfl]
  refine runs_seq (jf0 g0 g1 j  ) (fun s hh=> ?_) (fun e s hne hh=>absurd hh.1 hne)
  obtain⟨_,j,c,ch,rfl⟩:=hh
  refine runs_seq (jf1 g0 g1 j  ) (fun s hh=> ?_) (fun e s hne hh=>absurd hh.1 hne)
  obtain⟨_,j,c,ch,f1_0,rfl⟩:=hh
  refine runs_seq (jf2 g0 g1 (hmac2 (bL (wA .u8 4 [74,101,102,101]) 0 4) (bL (wA .u8 28 [119,104,97,116,32,100,111,32,121,97,32,119,97,110,116,32,102,111,114,32,110,111,116,104,105,110,103,63]) 0 28)) j f1_0 ) (fun s hh=> ?_) (fun e s hne hh=>absurd hh.1 hne)
  obtain⟨_,j,c,ch,f2_1,rfl⟩:=hh
  refine(jf3 g0 g1 (hmac2 (bL (wA .u8 4 [74,101,102,101]) 0 4) (bL (wA .u8 28 [119,104,97,116,32,100,111,32,121,97,32,119,97,110,116,32,102,111,114,32,110,111,116,104,105,110,103,63]) 0 28)) (hmac5 (bL (wA .u8 4 [74,101,102,101]) 0 4) (bL (wA .u8 28 [119,104,97,116,32,100,111,32,121,97,32,119,97,110,116,32,102,111,114,32,110,111,116,104,105,110,103,63]) 0 28)) j f1_0 f2_1 ).mono ?_
  rintro e s ⟨rfl,j,c,ch,rfl⟩
  exact⟨rfl,j,c,ch,f1_0,f2_1,rfl⟩
theorem Jefe_c (g0 g1:Tq):Reads Tryd.prog 13 [(wA .u32 64 kL2,g0),(wA .u64 80 kL5,g1)] [] (.bool true) 2:=by
  refine reads_runs (fk:=2000002) (yty.enm tabM2 [mMask] 2000002) Tryd.func13 (c:=bdy Tryd.f13) (by kernel_rfl) ⟨len2 _ _,by decide⟩ (args:= []) rfl (K:=fun e s=>e= .ret∧resS (yty.enm tabM2 [mMask] 2000002) s Tryd.f13.results.toList=some [.bool true]) ?_ (fun e s h=>⟨h.1,_,h.2,rfl⟩)
  refine(jfu g0 g1 (fun _=>undef)).mono ?_
  rintro e s ⟨rfl,hh⟩
  obtain⟨j,c,ch,hS,hX,rfl⟩:=hh
  exact⟨rfl,by kernel_rfl⟩
def pKn7 : Entry Tryd.prog where
  f:=13
  ng:=2
  g := fun mem xs => match xs with
    | [] => (match mem[0]?, mem[1]? with
      |some (x0,_),some (x1,_)=>some (.bool true,(x0=wA .u32 64 kL2∧x1=wA .u64 80 kL5))
      |_,_=>none)
    |_=>none
  ok := fun mem xs v c e hc w β hw hg => by
    split at e
    · split at e
      · rename_i x0 g0 x1 g1 h0 h1
        simp only[Option.some.injEq,Prod.mk.injEq] at e
        obtain⟨rfl,rfl⟩:=e
        obtain⟨rfl,rfl⟩:=hc
        exact readsN rfl (Jefe_c g0 g1) h0 h1 hw (hg 0 (by decide)) (hg 1 (by decide))
      · cases e
    · cases e
  call:=call_of Tryd.func13 (by kernel_rfl) (by kernel_rfl)
def tabM3:List (Entry Tryd.prog):=pKn7 :: tabM2
end Go.Proofs.YtmpjlammofgicaaDoor

set_option linter.unusedSimpArgs false
set_option linter.unusedVariables false
/-! mac: noughts behind a key. -/
namespace Go.Proofs.YtmpjlammofgicaaDoor
open Go.RowKit Go.Ev
theorem al_b {mem:List Mb} {b:Option Addr} {l c:Nat} (h:BytesOk mem b l c) {i M:Nat} (hi:mem.length≤i):al i M (.slice b l c)= .slice b l c:=by
  rcases h with⟨rfl,rfl,rfl⟩|⟨k,o,src,st,rfl,hm,_⟩
  · rfl
  · have := (List.getElem?_eq_some_iff.1 hm).1
    simp only[al]
    rw[if_neg (by omega)]
theorem bLk {n k:Nat} {L:List Int} (h:L.length=n) (hk:n≤k):bL (wA .u8 k L) 0 n=L:=by
  apply List.ext_getElem?
  intro i
  by_cases hi:i<n
  · have h1 := bL_at (a := wA .u8 k L) (p := 0) (r := n) (i := i)
    rw[if_pos hi,Nat.zero_add] at h1
    have h2:iat (wA .u8 k L) i=L.getD i 0:=by unfold iat;rw[wA_at (by omega)]
    rw[h2,List.getD_eq_getElem?_getD,List.getD_eq_getElem?_getD] at h1
    have l1:i<(bL (wA .u8 k L) 0 n).length:=by rw[bL_len];exact hi
    rw[List.getElem?_eq_getElem l1,List.getElem?_eq_getElem (by omega)] at h1 ⊢
    exact congrArg some h1
  · rw[List.getElem?_eq_none (by rw[bL_len];omega),List.getElem?_eq_none (by omega)]
theorem bt_k {n k:Nat} {L:List Int} (hk:n≤k) (h:∀ x ∈ L,0≤x∧x<256):bytesAt (wA .u8 k L) 0 n:=fun j hj=>by
  have h1:=(bytes_wA (n:=k) h) j (by omega)
  exact h1
theorem zs_get (K:List Int) (m i:Nat):(K ++ List.replicate m 0).getD i 0=K.getD i 0:=by
  rw[getD_app]
  by_cases h:i<K.length
  · rw[if_pos h]
  · rw [if_neg h, List.getD_eq_getElem?_getD, List.getD_eq_getElem?_getD, List.getElem?_eq_none (show K.length ≤ i by omega), List.getElem?_replicate]
    split<;>rfl
theorem zs_wA (B m:Nat) (K:List Int):wA .u8 B (K ++ List.replicate m 0)=wA .u8 B K:=by
  unfold wA
  congr 1
  exact List.map_congr_left fun i _=>by rw[zs_get]
theorem zs_bt {K:List Int} (h:∀ x ∈ K,0≤x∧x<256) (m:Nat):∀ x ∈ K ++ List.replicate m 0,0≤x∧x<256:=fun x hx=>by
  rcases List.mem_append.1 hx with hx|hx
  · exact h x hx
  · rw[(List.mem_replicate.1 hx).2];exact⟨by decide,by decide⟩
theorem zs_hm2 {K N:List Int} {m:Nat} (h:K.length+m≤64):hmac2 (K ++ List.replicate m 0) N=hmac2 K N:=by
  unfold hmac2 key2
  rw[if_pos (by simp;omega),if_pos (by omega),zs_wA]
theorem zs_hm5 {K N:List Int} {m:Nat} (h:K.length+m≤128):hmac5 (K ++ List.replicate m 0) N=hmac5 K N:=by
  unfold hmac5 key5
  rw[if_pos (by simp;omega),if_pos (by omega),zs_wA]
abbrev mnR_s (g0 g1 t1 t2:Tq) (a1 a2:Array Value) (b1 b2:Option Addr) (l1 c1 l2 c2:Nat) (N1 N2:List Int) (z:Int) (j:Nat→Value):List Value:=(J j 0 6 ++ ([.bool true] ++ (J j 7 45)))
abbrev mnR_m (g0 g1 t1 t2:Tq) (a1 a2:Array Value) (b1 b2:Option Addr) (l1 c1 l2 c2:Nat) (N1 N2:List Int) (z:Int):List Mb:= [((wA .u32 64 kL2),g0),((wA .u64 80 kL5),g1),(a1,t1),(a2,t2)]
abbrev mnA_s (g0 g1 t1 t2:Tq) (a1 a2:Array Value) (b1 b2:Option Addr) (l1 c1 l2 c2:Nat) (N1 N2:List Int) (z:Int) (j:Nat→Value):List Value:=([.slice b1 l1 c1,.slice b2 l2 c2,.int .i64 z] ++ (JU 49))
abbrev mnA_m (g0 g1 t1 t2:Tq) (a1 a2:Array Value) (b1 b2:Option Addr) (l1 c1 l2 c2:Nat) (N1 N2:List Int) (z:Int):List Mb:= [((wA .u32 64 kL2),g0),((wA .u64 80 kL5),g1),(a1,t1),(a2,t2)]
abbrev mnB_s (g0 g1 t1 t2:Tq) (a1 a2:Array Value) (b1 b2:Option Addr) (l1 c1 l2 c2:Nat) (N1 N2:List Int) (z:Int) (j:Nat→Value):List Value:=([.slice b1 l1 c1,.slice b2 l2 c2,.int .i64 z] ++ (J j 3 3 ++ ([.bool false] ++ (J j 7 45))))
abbrev mnB_m (g0 g1 t1 t2:Tq) (a1 a2:Array Value) (b1 b2:Option Addr) (l1 c1 l2 c2:Nat) (N1 N2:List Int) (z:Int):List Mb:= [((wA .u32 64 kL2),g0),((wA .u64 80 kL5),g1),(a1,t1),(a2,t2)]
def mn0p_h (i:Nat):Hn:=⟨0,[],[],[],[]⟩
def mn0p_b (g0 g1 t1 t2:Tq) (a1 a2:Array Value) (b1 b2:Option Addr) (l1 c1 l2 c2:Nat) (N1 N2:List Int) (z:Int) (j:Nat→Value):List Value:=([.slice b1 l1 c1,.slice b2 l2 c2,.int .i64 z] ++ (JU 3 ++ ([.bool false] ++ (JU 45))))
theorem mn0p_0 (g0 g1 t1 t2:Tq) (a1 a2:Array Value) (b1 b2:Option Addr) (l1 c1 l2 c2:Nat) (N1 N2:List Int) (z:Int) (j:Nat→Value):evC (yty.enm tabM3 [mMask] 2000004) mn0p_h (cAt [0] (bdy Tryd.f8)) ⟨mnA_s g0 g1 t1 t2 a1 a2 b1 b2 l1 c1 l2 c2 N1 N2 z j,mnA_m g0 g1 t1 t2 a1 a2 b1 b2 l1 c1 l2 c2 N1 N2 z,True,[]⟩=some (.normal,⟨mn0p_b g0 g1 t1 t2 a1 a2 b1 b2 l1 c1 l2 c2 N1 N2 z j,[((wA .u32 64 kL2),g0),((wA .u64 80 kL5),g1),(a1,t1),(a2,t2)],(True∧True),[]⟩):=by kernel_rfl
theorem mn0 (g0 g1 t1 t2:Tq) (a1 a2:Array Value) (b1 b2:Option Addr) (l1 c1 l2 c2:Nat) (N1 N2:List Int) (z:Int) (j:Nat→Value) (hk:BytesOk [(wA .u32 64 kL2,g0),(wA .u64 80 kL5,g1),(a1,t1),(a2,t2)] b1 l1 c1) (hN1:bytesOf [(wA .u32 64 kL2,g0),(wA .u64 80 kL5,g1),(a1,t1),(a2,t2)] b1 l1=N1) (ht:BytesOk [(wA .u32 64 kL2,g0),(wA .u64 80 kL5,g1),(a1,t1),(a2,t2)] b2 l2 c2) (hN2:bytesOf [(wA .u32 64 kL2,g0),(wA .u64 80 kL5,g1),(a1,t1),(a2,t2)] b2 l2=N2)  {c0:Prop} {ch0:List (Option Value)}:Runs Tryd.prog (cAt [0] (bdy Tryd.f8)) ⟨mnA_s g0 g1 t1 t2 a1 a2 b1 b2 l1 c1 l2 c2 N1 N2 z j,mnA_m g0 g1 t1 t2 a1 a2 b1 b2 l1 c1 l2 c2 N1 N2 z,c0,ch0⟩ (fun e s=>e= .normal∧∃(j:Nat→Value) (c:Prop) (ch:List (Option Value)),s=⟨mnB_s g0 g1 t1 t2 a1 a2 b1 b2 l1 c1 l2 c2 N1 N2 z j,mnB_m g0 g1 t1 t2 a1 a2 b1 b2 l1 c1 l2 c2 N1 N2 z,c,ch⟩) 2000004:=by
  refine(runs_ev mixed _ (mn0p_0 g0 g1 t1 t2 a1 a2 b1 b2 l1 c1 l2 c2 N1 N2 z j) ⟨trivial,trivial⟩).mono ?_
  rintro e s ⟨rfl,hs⟩
  refine⟨rfl,fun q=>s.tm.getD q undef,s.c,s.ch,?_⟩
  subst hs
  kernel_rfl
def mnb0p_h (i:Nat):Hn:=⟨0,[],[],[],[]⟩
def mnb0p_b (g0 g1 t1 t2:Tq) (a1 a2:Array Value) (b1 b2:Option Addr) (l1 c1 l2 c2:Nat) (N1 N2:List Int) (z:Int) (j:Nat→Value):List Value:=([.slice b1 l1 c1,.slice b2 l2 c2,.int .i64 z] ++ (J j 3 3 ++ ([.bool true,j 7,.slice b1 l1 c1,.int .i64 ((l1:Nat):Int),.bool true,.bool true] ++ (JU 3 ++ ([.bool true,.bool true,undef,undef,.bool true,.bool true] ++ (JU 5 ++ ([.bool true,.bool true] ++ (J j 28 24))))))))
theorem mnb0p_0 (g0 g1 t1 t2:Tq) (a1 a2:Array Value) (b1 b2:Option Addr) (l1 c1 l2 c2:Nat) (N1 N2:List Int) (z:Int) (j:Nat→Value):evC (yty.enm tabM3 [mMask] 2000004) mnb0p_h (cAt [1,0] (bdy Tryd.f8)) ⟨mnB_s g0 g1 t1 t2 a1 a2 b1 b2 l1 c1 l2 c2 N1 N2 z j,mnB_m g0 g1 t1 t2 a1 a2 b1 b2 l1 c1 l2 c2 N1 N2 z,True,[some (.bool true)]⟩=some (.ret,⟨mnb0p_b g0 g1 t1 t2 a1 a2 b1 b2 l1 c1 l2 c2 N1 N2 z j,[((wA .u32 64 kL2),g0),((wA .u64 80 kL5),g1),(a1,t1),(a2,t2)],(((((((((((True∧True)∧True)∧(True∧(decide (64<((l1:Nat):Int)))=true))∧True)∧True)∧True)∧True)∧True)∧True)∧((wA .u32 64 kL2)=wA .u32 64 kL2∧(wA .u64 80 kL5)=wA .u64 80 kL5))∧True),[]⟩):=by kernel_rfl
theorem mnb0 (g0 g1 t1 t2:Tq) (a1 a2:Array Value) (b1 b2:Option Addr) (l1 c1 l2 c2:Nat) (N1 N2:List Int) (z:Int) (j:Nat→Value) (hk:BytesOk [(wA .u32 64 kL2,g0),(wA .u64 80 kL5,g1),(a1,t1),(a2,t2)] b1 l1 c1) (hN1:bytesOf [(wA .u32 64 kL2,g0),(wA .u64 80 kL5,g1),(a1,t1),(a2,t2)] b1 l1=N1) (ht:BytesOk [(wA .u32 64 kL2,g0),(wA .u64 80 kL5,g1),(a1,t1),(a2,t2)] b2 l2 c2) (hN2:bytesOf [(wA .u32 64 kL2,g0),(wA .u64 80 kL5,g1),(a1,t1),(a2,t2)] b2 l2=N2) (e1:64<l1) {c0:Prop} {ch0:List (Option Value)}:Runs Tryd.prog (cAt [1,0] (bdy Tryd.f8)) ⟨mnB_s g0 g1 t1 t2 a1 a2 b1 b2 l1 c1 l2 c2 N1 N2 z j,mnB_m g0 g1 t1 t2 a1 a2 b1 b2 l1 c1 l2 c2 N1 N2 z,c0,ch0⟩ (fun e s=>e= .ret∧∃(j:Nat→Value) (c:Prop) (ch:List (Option Value)),s=⟨mnR_s g0 g1 t1 t2 a1 a2 b1 b2 l1 c1 l2 c2 N1 N2 z j,mnR_m g0 g1 t1 t2 a1 a2 b1 b2 l1 c1 l2 c2 N1 N2 z,c,ch⟩) 2000004:=by
  have h0:(decide (64<((l1:Nat):Int)))=true:=(decide_eq_true (by omega))
  refine(runs_ev mixed _ (mnb0p_0 g0 g1 t1 t2 a1 a2 b1 b2 l1 c1 l2 c2 N1 N2 z j) ⟨⟨⟨⟨⟨⟨⟨⟨⟨⟨⟨trivial,trivial⟩,trivial⟩,⟨trivial,h0⟩⟩,trivial⟩,trivial⟩,trivial⟩,trivial⟩,trivial⟩,trivial⟩,⟨rfl,rfl⟩⟩,trivial⟩).mono ?_
  rintro e s ⟨rfl,hs⟩
  refine⟨rfl,fun q=>s.tm.getD q undef,s.c,s.ch,?_⟩
  subst hs
  kernel_rfl
def mnb1p_h (i:Nat):Hn:=⟨0,[],[],[],[]⟩
def mnb1p_b (g0 g1 t1 t2:Tq) (a1 a2:Array Value) (b1 b2:Option Addr) (l1 c1 l2 c2:Nat) (N1 N2:List Int) (z:Int) (j:Nat→Value):List Value:=([.slice b1 l1 c1,.slice b2 l2 c2,.int .i64 z] ++ (J j 3 3 ++ ([.bool true,j 7,.slice b1 l1 c1,.int .i64 ((l1:Nat):Int),.bool false,.bool false,.slice b2 l2 c2,.int .i64 ((l2:Nat):Int),.bool true,.bool true,.bool true,undef,undef,.bool true,.bool true] ++ (JU 5 ++ ([.bool true,.bool true] ++ (J j 28 24))))))
theorem mnb1p_0 (g0 g1 t1 t2:Tq) (a1 a2:Array Value) (b1 b2:Option Addr) (l1 c1 l2 c2:Nat) (N1 N2:List Int) (z:Int) (j:Nat→Value):evC (yty.enm tabM3 [mMask] 2000004) mnb1p_h (cAt [1,0] (bdy Tryd.f8)) ⟨mnB_s g0 g1 t1 t2 a1 a2 b1 b2 l1 c1 l2 c2 N1 N2 z j,mnB_m g0 g1 t1 t2 a1 a2 b1 b2 l1 c1 l2 c2 N1 N2 z,True,[some (.bool false),some (.bool true)]⟩=some (.ret,⟨mnb1p_b g0 g1 t1 t2 a1 a2 b1 b2 l1 c1 l2 c2 N1 N2 z j,[((wA .u32 64 kL2),g0),((wA .u64 80 kL5),g1),(a1,t1),(a2,t2)],((((((((((((((True∧True)∧True)∧(True∧(decide (64<((l1:Nat):Int)))=false))∧True)∧True)∧True)∧(True∧(decide (2000<((l2:Nat):Int)))=true))∧True)∧True)∧True)∧True)∧True)∧((wA .u32 64 kL2)=wA .u32 64 kL2∧(wA .u64 80 kL5)=wA .u64 80 kL5))∧True),[]⟩):=by kernel_rfl
theorem mnb1 (g0 g1 t1 t2:Tq) (a1 a2:Array Value) (b1 b2:Option Addr) (l1 c1 l2 c2:Nat) (N1 N2:List Int) (z:Int) (j:Nat→Value) (hk:BytesOk [(wA .u32 64 kL2,g0),(wA .u64 80 kL5,g1),(a1,t1),(a2,t2)] b1 l1 c1) (hN1:bytesOf [(wA .u32 64 kL2,g0),(wA .u64 80 kL5,g1),(a1,t1),(a2,t2)] b1 l1=N1) (ht:BytesOk [(wA .u32 64 kL2,g0),(wA .u64 80 kL5,g1),(a1,t1),(a2,t2)] b2 l2 c2) (hN2:bytesOf [(wA .u32 64 kL2,g0),(wA .u64 80 kL5,g1),(a1,t1),(a2,t2)] b2 l2=N2) (e1:¬ 64<l1) (e2:2000<l2) {c0:Prop} {ch0:List (Option Value)}:Runs Tryd.prog (cAt [1,0] (bdy Tryd.f8)) ⟨mnB_s g0 g1 t1 t2 a1 a2 b1 b2 l1 c1 l2 c2 N1 N2 z j,mnB_m g0 g1 t1 t2 a1 a2 b1 b2 l1 c1 l2 c2 N1 N2 z,c0,ch0⟩ (fun e s=>e= .ret∧∃(j:Nat→Value) (c:Prop) (ch:List (Option Value)),s=⟨mnR_s g0 g1 t1 t2 a1 a2 b1 b2 l1 c1 l2 c2 N1 N2 z j,mnR_m g0 g1 t1 t2 a1 a2 b1 b2 l1 c1 l2 c2 N1 N2 z,c,ch⟩) 2000004:=by
  have h0:(decide (64<((l1:Nat):Int)))=false:=(decide_eq_false (by omega))
  have h1:(decide (2000<((l2:Nat):Int)))=true:=(decide_eq_true (by omega))
  refine(runs_ev mixed _ (mnb1p_0 g0 g1 t1 t2 a1 a2 b1 b2 l1 c1 l2 c2 N1 N2 z j) ⟨⟨⟨⟨⟨⟨⟨⟨⟨⟨⟨⟨⟨⟨trivial,trivial⟩,trivial⟩,⟨trivial,h0⟩⟩,trivial⟩,trivial⟩,trivial⟩,⟨trivial,h1⟩⟩,trivial⟩,trivial⟩,trivial⟩,trivial⟩,trivial⟩,⟨rfl,rfl⟩⟩,trivial⟩).mono ?_
  rintro e s ⟨rfl,hs⟩
  refine⟨rfl,fun q=>s.tm.getD q undef,s.c,s.ch,?_⟩
  subst hs
  kernel_rfl
def mnb2p_h (i:Nat):Hn:=⟨0,[],[],[],[]⟩
def mnb2p_b (g0 g1 t1 t2:Tq) (a1 a2:Array Value) (b1 b2:Option Addr) (l1 c1 l2 c2:Nat) (N1 N2:List Int) (z:Int) (j:Nat→Value):List Value:=([.slice b1 l1 c1,.slice b2 l2 c2,.int .i64 z] ++ (J j 3 3 ++ ([.bool true,j 7,.slice b1 l1 c1,.int .i64 ((l1:Nat):Int),.bool false,.bool false,.slice b2 l2 c2,.int .i64 ((l2:Nat):Int),.bool false,.bool false,.bool false,.int .i64 z,.bool true,.bool true,.bool true] ++ (JU 5 ++ ([.bool true,.bool true] ++ (J j 28 24))))))
theorem mnb2p_0 (g0 g1 t1 t2:Tq) (a1 a2:Array Value) (b1 b2:Option Addr) (l1 c1 l2 c2:Nat) (N1 N2:List Int) (z:Int) (j:Nat→Value):evC (yty.enm tabM3 [mMask] 2000004) mnb2p_h (cAt [1,0] (bdy Tryd.f8)) ⟨mnB_s g0 g1 t1 t2 a1 a2 b1 b2 l1 c1 l2 c2 N1 N2 z j,mnB_m g0 g1 t1 t2 a1 a2 b1 b2 l1 c1 l2 c2 N1 N2 z,True,[some (.bool false),some (.bool false),some (.bool true)]⟩=some (.ret,⟨mnb2p_b g0 g1 t1 t2 a1 a2 b1 b2 l1 c1 l2 c2 N1 N2 z j,[((wA .u32 64 kL2),g0),((wA .u64 80 kL5),g1),(a1,t1),(a2,t2)],((((((((((((((((True∧True)∧True)∧(True∧(decide (64<((l1:Nat):Int)))=false))∧True)∧True)∧True)∧(True∧(decide (2000<((l2:Nat):Int)))=false))∧True)∧True)∧True)∧(True∧(decide (z<0))=true))∧True)∧True)∧True)∧((wA .u32 64 kL2)=wA .u32 64 kL2∧(wA .u64 80 kL5)=wA .u64 80 kL5))∧True),[]⟩):=by kernel_rfl
theorem mnb2 (g0 g1 t1 t2:Tq) (a1 a2:Array Value) (b1 b2:Option Addr) (l1 c1 l2 c2:Nat) (N1 N2:List Int) (z:Int) (j:Nat→Value) (hk:BytesOk [(wA .u32 64 kL2,g0),(wA .u64 80 kL5,g1),(a1,t1),(a2,t2)] b1 l1 c1) (hN1:bytesOf [(wA .u32 64 kL2,g0),(wA .u64 80 kL5,g1),(a1,t1),(a2,t2)] b1 l1=N1) (ht:BytesOk [(wA .u32 64 kL2,g0),(wA .u64 80 kL5,g1),(a1,t1),(a2,t2)] b2 l2 c2) (hN2:bytesOf [(wA .u32 64 kL2,g0),(wA .u64 80 kL5,g1),(a1,t1),(a2,t2)] b2 l2=N2) (e1:¬ 64<l1) (e2:¬ 2000<l2) (e3:z<0) {c0:Prop} {ch0:List (Option Value)}:Runs Tryd.prog (cAt [1,0] (bdy Tryd.f8)) ⟨mnB_s g0 g1 t1 t2 a1 a2 b1 b2 l1 c1 l2 c2 N1 N2 z j,mnB_m g0 g1 t1 t2 a1 a2 b1 b2 l1 c1 l2 c2 N1 N2 z,c0,ch0⟩ (fun e s=>e= .ret∧∃(j:Nat→Value) (c:Prop) (ch:List (Option Value)),s=⟨mnR_s g0 g1 t1 t2 a1 a2 b1 b2 l1 c1 l2 c2 N1 N2 z j,mnR_m g0 g1 t1 t2 a1 a2 b1 b2 l1 c1 l2 c2 N1 N2 z,c,ch⟩) 2000004:=by
  have h0:(decide (64<((l1:Nat):Int)))=false:=(decide_eq_false (by omega))
  have h1:(decide (2000<((l2:Nat):Int)))=false:=(decide_eq_false (by omega))
  have h2:(decide (z<0))=true:=(decide_eq_true (by omega))
  refine(runs_ev mixed _ (mnb2p_0 g0 g1 t1 t2 a1 a2 b1 b2 l1 c1 l2 c2 N1 N2 z j) ⟨⟨⟨⟨⟨⟨⟨⟨⟨⟨⟨⟨⟨⟨⟨⟨trivial,trivial⟩,trivial⟩,⟨trivial,h0⟩⟩,trivial⟩,trivial⟩,trivial⟩,⟨trivial,h1⟩⟩,trivial⟩,trivial⟩,trivial⟩,⟨trivial,h2⟩⟩,trivial⟩,trivial⟩,trivial⟩,⟨rfl,rfl⟩⟩,trivial⟩).mono ?_
  rintro e s ⟨rfl,hs⟩
  refine⟨rfl,fun q=>s.tm.getD q undef,s.c,s.ch,?_⟩
  subst hs
  kernel_rfl
def mnb3p_h (i:Nat):Hn:=⟨0,[],[],[],[]⟩
def mnb3p_b (g0 g1 t1 t2:Tq) (a1 a2:Array Value) (b1 b2:Option Addr) (l1 c1 l2 c2:Nat) (N1 N2:List Int) (z:Int) (j:Nat→Value):List Value:=([.slice b1 l1 c1,.slice b2 l2 c2,.int .i64 z] ++ (J j 3 3 ++ ([.bool true,j 7,.slice b1 l1 c1,.int .i64 ((l1:Nat):Int),.bool false,.bool false,.slice b2 l2 c2,.int .i64 ((l2:Nat):Int),.bool false,.bool false,.bool false,.int .i64 z,.bool false,.bool false,.bool false,.int .i64 z,.slice b1 l1 c1,.int .i64 ((l1:Nat):Int),.int .i64 ((64 - l1:Nat):Int),.bool true,.bool true,.bool true] ++ (J j 28 24))))
theorem mnb3p_0 (g0 g1 t1 t2:Tq) (a1 a2:Array Value) (b1 b2:Option Addr) (l1 c1 l2 c2:Nat) (N1 N2:List Int) (z:Int) (j:Nat→Value):evC (yty.enm tabM3 [mMask] 2000004) mnb3p_h (cAt [1,0] (bdy Tryd.f8)) ⟨mnB_s g0 g1 t1 t2 a1 a2 b1 b2 l1 c1 l2 c2 N1 N2 z j,mnB_m g0 g1 t1 t2 a1 a2 b1 b2 l1 c1 l2 c2 N1 N2 z,True,[some (.bool false),some (.bool false),some (.bool false),some (.int .i64 ((64 - l1:Nat):Int)),some (.bool true)]⟩=some (.ret,⟨mnb3p_b g0 g1 t1 t2 a1 a2 b1 b2 l1 c1 l2 c2 N1 N2 z j,[((wA .u32 64 kL2),g0),((wA .u64 80 kL5),g1),(a1,t1),(a2,t2)],(((((((((((((((((((((True∧True)∧True)∧(True∧(decide (64<((l1:Nat):Int)))=false))∧True)∧True)∧True)∧(True∧(decide (2000<((l2:Nat):Int)))=false))∧True)∧True)∧True)∧(True∧(decide (z<0))=false))∧True)∧True)∧True)∧True)∧True)∧(True∧(IntKind.i64.wrap (64 - ((l1:Nat):Int)))=((64 - l1:Nat):Int)))∧(True∧(decide (((64 - l1:Nat):Int)<z))=true))∧True)∧((wA .u32 64 kL2)=wA .u32 64 kL2∧(wA .u64 80 kL5)=wA .u64 80 kL5))∧True),[]⟩):=by kernel_rfl
theorem mnb3 (g0 g1 t1 t2:Tq) (a1 a2:Array Value) (b1 b2:Option Addr) (l1 c1 l2 c2:Nat) (N1 N2:List Int) (z:Int) (j:Nat→Value) (hk:BytesOk [(wA .u32 64 kL2,g0),(wA .u64 80 kL5,g1),(a1,t1),(a2,t2)] b1 l1 c1) (hN1:bytesOf [(wA .u32 64 kL2,g0),(wA .u64 80 kL5,g1),(a1,t1),(a2,t2)] b1 l1=N1) (ht:BytesOk [(wA .u32 64 kL2,g0),(wA .u64 80 kL5,g1),(a1,t1),(a2,t2)] b2 l2 c2) (hN2:bytesOf [(wA .u32 64 kL2,g0),(wA .u64 80 kL5,g1),(a1,t1),(a2,t2)] b2 l2=N2) (e1:¬ 64<l1) (e2:¬ 2000<l2) (e3:¬ z<0) (e4:64 - (l1:Int)<z) {c0:Prop} {ch0:List (Option Value)}:Runs Tryd.prog (cAt [1,0] (bdy Tryd.f8)) ⟨mnB_s g0 g1 t1 t2 a1 a2 b1 b2 l1 c1 l2 c2 N1 N2 z j,mnB_m g0 g1 t1 t2 a1 a2 b1 b2 l1 c1 l2 c2 N1 N2 z,c0,ch0⟩ (fun e s=>e= .ret∧∃(j:Nat→Value) (c:Prop) (ch:List (Option Value)),s=⟨mnR_s g0 g1 t1 t2 a1 a2 b1 b2 l1 c1 l2 c2 N1 N2 z j,mnR_m g0 g1 t1 t2 a1 a2 b1 b2 l1 c1 l2 c2 N1 N2 z,c,ch⟩) 2000004:=by
  have h0:(decide (64<((l1:Nat):Int)))=false:=(decide_eq_false (by omega))
  have h1:(decide (2000<((l2:Nat):Int)))=false:=(decide_eq_false (by omega))
  have h2:(decide (z<0))=false:=(decide_eq_false (by omega))
  have h3:(decide (((64 - l1:Nat):Int)<z))=true:=(decide_eq_true (by omega))
  refine(runs_ev mixed _ (mnb3p_0 g0 g1 t1 t2 a1 a2 b1 b2 l1 c1 l2 c2 N1 N2 z j) ⟨⟨⟨⟨⟨⟨⟨⟨⟨⟨⟨⟨⟨⟨⟨⟨⟨⟨⟨⟨⟨trivial,trivial⟩,trivial⟩,⟨trivial,h0⟩⟩,trivial⟩,trivial⟩,trivial⟩,⟨trivial,h1⟩⟩,trivial⟩,trivial⟩,trivial⟩,⟨trivial,h2⟩⟩,trivial⟩,trivial⟩,trivial⟩,trivial⟩,trivial⟩,⟨trivial,(by rw[IntKind.wrap_i64];omega)⟩⟩,⟨trivial,h3⟩⟩,trivial⟩,⟨rfl,rfl⟩⟩,trivial⟩).mono ?_
  rintro e s ⟨rfl,hs⟩
  refine⟨rfl,fun q=>s.tm.getD q undef,s.c,s.ch,?_⟩
  subst hs
  kernel_rfl
theorem mnx0 (g0 g1 t1 t2:Tq) (a1 a2:Array Value) (b1 b2:Option Addr) (l1 c1 l2 c2:Nat) (N1 N2:List Int) (z:Int) (j:Nat→Value) (hk:BytesOk [(wA .u32 64 kL2,g0),(wA .u64 80 kL5,g1),(a1,t1),(a2,t2)] b1 l1 c1) (hN1:bytesOf [(wA .u32 64 kL2,g0),(wA .u64 80 kL5,g1),(a1,t1),(a2,t2)] b1 l1=N1) (ht:BytesOk [(wA .u32 64 kL2,g0),(wA .u64 80 kL5,g1),(a1,t1),(a2,t2)] b2 l2 c2) (hN2:bytesOf [(wA .u32 64 kL2,g0),(wA .u64 80 kL5,g1),(a1,t1),(a2,t2)] b2 l2=N2) (e1:64<l1) {c0:Prop} {ch0:List (Option Value)}:Runs Tryd.prog (cAt [] (bdy Tryd.f8)) ⟨mnA_s g0 g1 t1 t2 a1 a2 b1 b2 l1 c1 l2 c2 N1 N2 z j,mnA_m g0 g1 t1 t2 a1 a2 b1 b2 l1 c1 l2 c2 N1 N2 z,c0,ch0⟩ (fun e s=>e= .ret∧∃(j:Nat→Value) (c:Prop) (ch:List (Option Value)),s=⟨mnR_s g0 g1 t1 t2 a1 a2 b1 b2 l1 c1 l2 c2 N1 N2 z j,mnR_m g0 g1 t1 t2 a1 a2 b1 b2 l1 c1 l2 c2 N1 N2 z,c,ch⟩) 2000004:=by
  rw[show(cAt [] (bdy Tryd.f8))=(.seq (cAt [0] (bdy Tryd.f8)) (.seq (cAt [1,0] (bdy Tryd.f8)) (cAt [1,1] (bdy Tryd.f8)))) from by kernel_rfl]
  refine runs_seq (mn0 g0 g1 t1 t2 a1 a2 b1 b2 l1 c1 l2 c2 N1 N2 z j hk hN1 ht hN2 ) (fun s hh=> ?_) (fun e s hne hh=>absurd hh.1 hne)
  obtain⟨_,j,c,ch,rfl⟩:=hh
  refine runs_seq (mnb0 g0 g1 t1 t2 a1 a2 b1 b2 l1 c1 l2 c2 N1 N2 z j hk hN1 ht hN2 e1) (fun s hh=>absurd hh.1 (by simp)) (fun e s hne hh=> ?_)
  obtain⟨rfl,j,c,ch,rfl⟩:=hh
  exact⟨rfl,j,c,ch,rfl⟩
theorem mnx1 (g0 g1 t1 t2:Tq) (a1 a2:Array Value) (b1 b2:Option Addr) (l1 c1 l2 c2:Nat) (N1 N2:List Int) (z:Int) (j:Nat→Value) (hk:BytesOk [(wA .u32 64 kL2,g0),(wA .u64 80 kL5,g1),(a1,t1),(a2,t2)] b1 l1 c1) (hN1:bytesOf [(wA .u32 64 kL2,g0),(wA .u64 80 kL5,g1),(a1,t1),(a2,t2)] b1 l1=N1) (ht:BytesOk [(wA .u32 64 kL2,g0),(wA .u64 80 kL5,g1),(a1,t1),(a2,t2)] b2 l2 c2) (hN2:bytesOf [(wA .u32 64 kL2,g0),(wA .u64 80 kL5,g1),(a1,t1),(a2,t2)] b2 l2=N2) (e1:¬ 64<l1) (e2:2000<l2) {c0:Prop} {ch0:List (Option Value)}:Runs Tryd.prog (cAt [] (bdy Tryd.f8)) ⟨mnA_s g0 g1 t1 t2 a1 a2 b1 b2 l1 c1 l2 c2 N1 N2 z j,mnA_m g0 g1 t1 t2 a1 a2 b1 b2 l1 c1 l2 c2 N1 N2 z,c0,ch0⟩ (fun e s=>e= .ret∧∃(j:Nat→Value) (c:Prop) (ch:List (Option Value)),s=⟨mnR_s g0 g1 t1 t2 a1 a2 b1 b2 l1 c1 l2 c2 N1 N2 z j,mnR_m g0 g1 t1 t2 a1 a2 b1 b2 l1 c1 l2 c2 N1 N2 z,c,ch⟩) 2000004:=by
  rw[show(cAt [] (bdy Tryd.f8))=(.seq (cAt [0] (bdy Tryd.f8)) (.seq (cAt [1,0] (bdy Tryd.f8)) (cAt [1,1] (bdy Tryd.f8)))) from by kernel_rfl]
  refine runs_seq (mn0 g0 g1 t1 t2 a1 a2 b1 b2 l1 c1 l2 c2 N1 N2 z j hk hN1 ht hN2 ) (fun s hh=> ?_) (fun e s hne hh=>absurd hh.1 hne)
  obtain⟨_,j,c,ch,rfl⟩:=hh
  refine runs_seq (mnb1 g0 g1 t1 t2 a1 a2 b1 b2 l1 c1 l2 c2 N1 N2 z j hk hN1 ht hN2 e1 e2) (fun s hh=>absurd hh.1 (by simp)) (fun e s hne hh=> ?_)
  obtain⟨rfl,j,c,ch,rfl⟩:=hh
  exact⟨rfl,j,c,ch,rfl⟩
theorem mnx2 (g0 g1 t1 t2:Tq) (a1 a2:Array Value) (b1 b2:Option Addr) (l1 c1 l2 c2:Nat) (N1 N2:List Int) (z:Int) (j:Nat→Value) (hk:BytesOk [(wA .u32 64 kL2,g0),(wA .u64 80 kL5,g1),(a1,t1),(a2,t2)] b1 l1 c1) (hN1:bytesOf [(wA .u32 64 kL2,g0),(wA .u64 80 kL5,g1),(a1,t1),(a2,t2)] b1 l1=N1) (ht:BytesOk [(wA .u32 64 kL2,g0),(wA .u64 80 kL5,g1),(a1,t1),(a2,t2)] b2 l2 c2) (hN2:bytesOf [(wA .u32 64 kL2,g0),(wA .u64 80 kL5,g1),(a1,t1),(a2,t2)] b2 l2=N2) (e1:¬ 64<l1) (e2:¬ 2000<l2) (e3:z<0) {c0:Prop} {ch0:List (Option Value)}:Runs Tryd.prog (cAt [] (bdy Tryd.f8)) ⟨mnA_s g0 g1 t1 t2 a1 a2 b1 b2 l1 c1 l2 c2 N1 N2 z j,mnA_m g0 g1 t1 t2 a1 a2 b1 b2 l1 c1 l2 c2 N1 N2 z,c0,ch0⟩ (fun e s=>e= .ret∧∃(j:Nat→Value) (c:Prop) (ch:List (Option Value)),s=⟨mnR_s g0 g1 t1 t2 a1 a2 b1 b2 l1 c1 l2 c2 N1 N2 z j,mnR_m g0 g1 t1 t2 a1 a2 b1 b2 l1 c1 l2 c2 N1 N2 z,c,ch⟩) 2000004:=by
  rw[show(cAt [] (bdy Tryd.f8))=(.seq (cAt [0] (bdy Tryd.f8)) (.seq (cAt [1,0] (bdy Tryd.f8)) (cAt [1,1] (bdy Tryd.f8)))) from by kernel_rfl]
  refine runs_seq (mn0 g0 g1 t1 t2 a1 a2 b1 b2 l1 c1 l2 c2 N1 N2 z j hk hN1 ht hN2 ) (fun s hh=> ?_) (fun e s hne hh=>absurd hh.1 hne)
  obtain⟨_,j,c,ch,rfl⟩:=hh
  refine runs_seq (mnb2 g0 g1 t1 t2 a1 a2 b1 b2 l1 c1 l2 c2 N1 N2 z j hk hN1 ht hN2 e1 e2 e3) (fun s hh=>absurd hh.1 (by simp)) (fun e s hne hh=> ?_)
  obtain⟨rfl,j,c,ch,rfl⟩:=hh
  exact⟨rfl,j,c,ch,rfl⟩
theorem mnx3 (g0 g1 t1 t2:Tq) (a1 a2:Array Value) (b1 b2:Option Addr) (l1 c1 l2 c2:Nat) (N1 N2:List Int) (z:Int) (j:Nat→Value) (hk:BytesOk [(wA .u32 64 kL2,g0),(wA .u64 80 kL5,g1),(a1,t1),(a2,t2)] b1 l1 c1) (hN1:bytesOf [(wA .u32 64 kL2,g0),(wA .u64 80 kL5,g1),(a1,t1),(a2,t2)] b1 l1=N1) (ht:BytesOk [(wA .u32 64 kL2,g0),(wA .u64 80 kL5,g1),(a1,t1),(a2,t2)] b2 l2 c2) (hN2:bytesOf [(wA .u32 64 kL2,g0),(wA .u64 80 kL5,g1),(a1,t1),(a2,t2)] b2 l2=N2) (e1:¬ 64<l1) (e2:¬ 2000<l2) (e3:¬ z<0) (e4:64 - (l1:Int)<z) {c0:Prop} {ch0:List (Option Value)}:Runs Tryd.prog (cAt [] (bdy Tryd.f8)) ⟨mnA_s g0 g1 t1 t2 a1 a2 b1 b2 l1 c1 l2 c2 N1 N2 z j,mnA_m g0 g1 t1 t2 a1 a2 b1 b2 l1 c1 l2 c2 N1 N2 z,c0,ch0⟩ (fun e s=>e= .ret∧∃(j:Nat→Value) (c:Prop) (ch:List (Option Value)),s=⟨mnR_s g0 g1 t1 t2 a1 a2 b1 b2 l1 c1 l2 c2 N1 N2 z j,mnR_m g0 g1 t1 t2 a1 a2 b1 b2 l1 c1 l2 c2 N1 N2 z,c,ch⟩) 2000004:=by
  rw[show(cAt [] (bdy Tryd.f8))=(.seq (cAt [0] (bdy Tryd.f8)) (.seq (cAt [1,0] (bdy Tryd.f8)) (cAt [1,1] (bdy Tryd.f8)))) from by kernel_rfl]
  refine runs_seq (mn0 g0 g1 t1 t2 a1 a2 b1 b2 l1 c1 l2 c2 N1 N2 z j hk hN1 ht hN2 ) (fun s hh=> ?_) (fun e s hne hh=>absurd hh.1 hne)
  obtain⟨_,j,c,ch,rfl⟩:=hh
  refine runs_seq (mnb3 g0 g1 t1 t2 a1 a2 b1 b2 l1 c1 l2 c2 N1 N2 z j hk hN1 ht hN2 e1 e2 e3 e4) (fun s hh=>absurd hh.1 (by simp)) (fun e s hne hh=> ?_)
  obtain⟨rfl,j,c,ch,rfl⟩:=hh
  exact⟨rfl,j,c,ch,rfl⟩
abbrev mnC_s (g0 g1 t1 t2:Tq) (a1 a2:Array Value) (b1 b2:Option Addr) (l1 c1 l2 c2:Nat) (N1 N2:List Int) (m:Nat) (j:Nat→Value):List Value:=([.slice b1 l1 c1,.slice b2 l2 c2,.int .i64 ((m:Nat):Int)] ++ (JU 49))
abbrev mnC_m (g0 g1 t1 t2:Tq) (a1 a2:Array Value) (b1 b2:Option Addr) (l1 c1 l2 c2:Nat) (N1 N2:List Int) (m:Nat):List Mb:= [((wA .u32 64 kL2),g0),((wA .u64 80 kL5),g1),(a1,t1),(a2,t2)]
abbrev mnD_s (g0 g1 t1 t2:Tq) (a1 a2:Array Value) (b1 b2:Option Addr) (l1 c1 l2 c2:Nat) (N1 N2:List Int) (m:Nat) (j:Nat→Value):List Value:=([.slice b1 l1 c1,.slice b2 l2 c2,.int .i64 ((m:Nat):Int)] ++ (J j 3 3 ++ ([.bool false] ++ (J j 7 45))))
abbrev mnD_m (g0 g1 t1 t2:Tq) (a1 a2:Array Value) (b1 b2:Option Addr) (l1 c1 l2 c2:Nat) (N1 N2:List Int) (m:Nat):List Mb:= [((wA .u32 64 kL2),g0),((wA .u64 80 kL5),g1),(a1,t1),(a2,t2)]
def mncp_h (i:Nat):Hn:=⟨0,[],[],[],[]⟩
def mncp_b (g0 g1 t1 t2:Tq) (a1 a2:Array Value) (b1 b2:Option Addr) (l1 c1 l2 c2:Nat) (N1 N2:List Int) (m:Nat) (j:Nat→Value):List Value:=([.slice b1 l1 c1,.slice b2 l2 c2,.int .i64 ((m:Nat):Int)] ++ (JU 3 ++ ([.bool false] ++ (JU 45))))
theorem mncp_0 (g0 g1 t1 t2:Tq) (a1 a2:Array Value) (b1 b2:Option Addr) (l1 c1 l2 c2:Nat) (N1 N2:List Int) (m:Nat) (j:Nat→Value):evC (yty.enm tabM3 [mMask] 2000004) mncp_h (cAt [0] (bdy Tryd.f8)) ⟨mnC_s g0 g1 t1 t2 a1 a2 b1 b2 l1 c1 l2 c2 N1 N2 m j,mnC_m g0 g1 t1 t2 a1 a2 b1 b2 l1 c1 l2 c2 N1 N2 m,True,[]⟩=some (.normal,⟨mncp_b g0 g1 t1 t2 a1 a2 b1 b2 l1 c1 l2 c2 N1 N2 m j,[((wA .u32 64 kL2),g0),((wA .u64 80 kL5),g1),(a1,t1),(a2,t2)],(True∧True),[]⟩):=by kernel_rfl
theorem mnc (g0 g1 t1 t2:Tq) (a1 a2:Array Value) (b1 b2:Option Addr) (l1 c1 l2 c2:Nat) (N1 N2:List Int) (m:Nat) (j:Nat→Value) (hk:BytesOk [(wA .u32 64 kL2,g0),(wA .u64 80 kL5,g1),(a1,t1),(a2,t2)] b1 l1 c1) (hN1:bytesOf [(wA .u32 64 kL2,g0),(wA .u64 80 kL5,g1),(a1,t1),(a2,t2)] b1 l1=N1) (ht:BytesOk [(wA .u32 64 kL2,g0),(wA .u64 80 kL5,g1),(a1,t1),(a2,t2)] b2 l2 c2) (hN2:bytesOf [(wA .u32 64 kL2,g0),(wA .u64 80 kL5,g1),(a1,t1),(a2,t2)] b2 l2=N2) (hl1:l1+m≤64) (hl2:l2≤2000)  {c0:Prop} {ch0:List (Option Value)}:Runs Tryd.prog (cAt [0] (bdy Tryd.f8)) ⟨mnC_s g0 g1 t1 t2 a1 a2 b1 b2 l1 c1 l2 c2 N1 N2 m j,mnC_m g0 g1 t1 t2 a1 a2 b1 b2 l1 c1 l2 c2 N1 N2 m,c0,ch0⟩ (fun e s=>e= .normal∧∃(j:Nat→Value) (c:Prop) (ch:List (Option Value)),s=⟨mnD_s g0 g1 t1 t2 a1 a2 b1 b2 l1 c1 l2 c2 N1 N2 m j,mnD_m g0 g1 t1 t2 a1 a2 b1 b2 l1 c1 l2 c2 N1 N2 m,c,ch⟩) 2000004:=by
  refine(runs_ev mixed _ (mncp_0 g0 g1 t1 t2 a1 a2 b1 b2 l1 c1 l2 c2 N1 N2 m j) ⟨trivial,trivial⟩).mono ?_
  rintro e s ⟨rfl,hs⟩
  refine⟨rfl,fun q=>s.tm.getD q undef,s.c,s.ch,?_⟩
  subst hs
  kernel_rfl
def mndp_h (i:Nat):Hn:=⟨0,[],[],[],[]⟩
def mndp_b (g0 g1 t1 t2:Tq) (a1 a2:Array Value) (b1 b2:Option Addr) (l1 c1 l2 c2:Nat) (N1 N2:List Int) (m:Nat) (j:Nat→Value):List Value:=([.slice b1 l1 c1,.slice b2 l2 c2,.int .i64 ((m:Nat):Int)] ++ (J j 3 3 ++ ([.bool false,j 7,.slice b1 l1 c1,.int .i64 ((l1:Nat):Int),.bool false,.bool false,.slice b2 l2 c2,.int .i64 ((l2:Nat):Int),.bool false,.bool false,.bool false,.int .i64 ((m:Nat):Int),.bool false,.bool false,.bool false,.int .i64 ((m:Nat):Int),.slice b1 l1 c1,.int .i64 ((l1:Nat):Int),.int .i64 ((64 - l1:Nat):Int),.bool false,.bool false] ++ (J j 27 25))))
theorem mndp_0 (g0 g1 t1 t2:Tq) (a1 a2:Array Value) (b1 b2:Option Addr) (l1 c1 l2 c2:Nat) (N1 N2:List Int) (m:Nat) (j:Nat→Value):evC (yty.enm tabM3 [mMask] 2000004) mndp_h (cAt [1,0] (bdy Tryd.f8)) ⟨mnD_s g0 g1 t1 t2 a1 a2 b1 b2 l1 c1 l2 c2 N1 N2 m j,mnD_m g0 g1 t1 t2 a1 a2 b1 b2 l1 c1 l2 c2 N1 N2 m,True,[some (.bool false),some (.bool false),some (.bool false),some (.int .i64 ((64 - l1:Nat):Int)),some (.bool false)]⟩=some (.normal,⟨mndp_b g0 g1 t1 t2 a1 a2 b1 b2 l1 c1 l2 c2 N1 N2 m j,[((wA .u32 64 kL2),g0),((wA .u64 80 kL5),g1),(a1,t1),(a2,t2)],(((((((((((((((((((True∧True)∧True)∧(True∧(decide (64<((l1:Nat):Int)))=false))∧True)∧True)∧True)∧(True∧(decide (2000<((l2:Nat):Int)))=false))∧True)∧True)∧True)∧(True∧(decide (((m:Nat):Int)<0))=false))∧True)∧True)∧True)∧True)∧True)∧(True∧(IntKind.i64.wrap (64 - ((l1:Nat):Int)))=((64 - l1:Nat):Int)))∧(True∧(decide (((64 - l1:Nat):Int)<((m:Nat):Int)))=false))∧True),[]⟩):=by kernel_rfl
theorem mnd (g0 g1 t1 t2:Tq) (a1 a2:Array Value) (b1 b2:Option Addr) (l1 c1 l2 c2:Nat) (N1 N2:List Int) (m:Nat) (j:Nat→Value) (hk:BytesOk [(wA .u32 64 kL2,g0),(wA .u64 80 kL5,g1),(a1,t1),(a2,t2)] b1 l1 c1) (hN1:bytesOf [(wA .u32 64 kL2,g0),(wA .u64 80 kL5,g1),(a1,t1),(a2,t2)] b1 l1=N1) (ht:BytesOk [(wA .u32 64 kL2,g0),(wA .u64 80 kL5,g1),(a1,t1),(a2,t2)] b2 l2 c2) (hN2:bytesOf [(wA .u32 64 kL2,g0),(wA .u64 80 kL5,g1),(a1,t1),(a2,t2)] b2 l2=N2) (hl1:l1+m≤64) (hl2:l2≤2000)  {c0:Prop} {ch0:List (Option Value)}:Runs Tryd.prog (cAt [1,0] (bdy Tryd.f8)) ⟨mnD_s g0 g1 t1 t2 a1 a2 b1 b2 l1 c1 l2 c2 N1 N2 m j,mnD_m g0 g1 t1 t2 a1 a2 b1 b2 l1 c1 l2 c2 N1 N2 m,c0,ch0⟩ (fun e s=>e= .normal∧∃(j:Nat→Value) (c:Prop) (ch:List (Option Value)),s=⟨mnD_s g0 g1 t1 t2 a1 a2 b1 b2 l1 c1 l2 c2 N1 N2 m j,mnD_m g0 g1 t1 t2 a1 a2 b1 b2 l1 c1 l2 c2 N1 N2 m,c,ch⟩) 2000004:=by
  have h0:(decide (64<((l1:Nat):Int)))=false:=(decide_eq_false (by omega))
  have h1:(decide (2000<((l2:Nat):Int)))=false:=(decide_eq_false (by omega))
  have h2:(decide (((m:Nat):Int)<0))=false:=(decide_eq_false (by omega))
  have h3:(decide (((64 - l1:Nat):Int)<((m:Nat):Int)))=false:=(decide_eq_false (by omega))
  refine(runs_ev mixed _ (mndp_0 g0 g1 t1 t2 a1 a2 b1 b2 l1 c1 l2 c2 N1 N2 m j) ⟨⟨⟨⟨⟨⟨⟨⟨⟨⟨⟨⟨⟨⟨⟨⟨⟨⟨⟨trivial,trivial⟩,trivial⟩,⟨trivial,h0⟩⟩,trivial⟩,trivial⟩,trivial⟩,⟨trivial,h1⟩⟩,trivial⟩,trivial⟩,trivial⟩,⟨trivial,h2⟩⟩,trivial⟩,trivial⟩,trivial⟩,trivial⟩,trivial⟩,⟨trivial,(by rw[IntKind.wrap_i64];omega)⟩⟩,⟨trivial,h3⟩⟩,trivial⟩).mono ?_
  rintro e s ⟨rfl,hs⟩
  refine⟨rfl,fun q=>s.tm.getD q undef,s.c,s.ch,?_⟩
  subst hs
  kernel_rfl
abbrev mnE_s (g0 g1 t1 t2:Tq) (a1 a2:Array Value) (b1 b2:Option Addr) (l1 c1 l2 c2:Nat) (N1 N2:List Int) (m:Nat) (n k:Nat) (j:Nat→Value):List Value:=([.slice b1 l1 c1,.slice b2 l2 c2] ++ (J j 2 5 ++ ([.slice (some ⟨4,0,none⟩) n k] ++ (J j 8 44))))
abbrev mnE_m (g0 g1 t1 t2:Tq) (a1 a2:Array Value) (b1 b2:Option Addr) (l1 c1 l2 c2:Nat) (N1 N2:List Int) (m:Nat) (n k:Nat):List Mb:= [((wA .u32 64 kL2),g0),((wA .u64 80 kL5),g1),(a1,t1),(a2,t2),((wA .u8 k (N1 ++ List.replicate m 0)),(5,(0,0)))]
def mnep_m0 (g0 g1 t1 t2:Tq) (a1 a2:Array Value) (b1 b2:Option Addr) (l1 c1 l2 c2:Nat) (N1 N2:List Int) (m:Nat) (j:Nat→Value):List Value:=([.slice b1 l1 c1,.slice b2 l2 c2,.int .i64 ((m:Nat):Int)] ++ (J j 3 3 ++ ([.bool false] ++ (J j 7 21 ++ ([.slice (some ⟨4,0,none⟩) 0 0,.slice b1 l1 c1] ++ (J j 30 22))))))
theorem mnep_0 (g0 g1 t1 t2:Tq) (a1 a2:Array Value) (b1 b2:Option Addr) (l1 c1 l2 c2:Nat) (N1 N2:List Int) (m:Nat) (j:Nat→Value):evL (yty.enm tabM3 [mMask] 2000004) (oT (cAt [1,1,0] (bdy Tryd.f8))) ((oT (cAt [1,1,0] (bdy Tryd.f8))).toList.take 2) ⟨mnD_s g0 g1 t1 t2 a1 a2 b1 b2 l1 c1 l2 c2 N1 N2 m j,mnD_m g0 g1 t1 t2 a1 a2 b1 b2 l1 c1 l2 c2 N1 N2 m,True,[]⟩=some ⟨mnep_m0 g0 g1 t1 t2 a1 a2 b1 b2 l1 c1 l2 c2 N1 N2 m j,[((wA .u32 64 kL2),g0),((wA .u64 80 kL5),g1),(a1,t1),(a2,t2),((wA .u8 0 []),(5,(0,0)))],(True∧True),[]⟩:=by kernel_rfl
def mnep_m1 (g0 g1 t1 t2:Tq) (a1 a2:Array Value) (b1 b2:Option Addr) (l1 c1 l2 c2:Nat) (N1 N2:List Int) (m:Nat) (j:Nat→Value) (n1 k1 M1:Nat):List Value:=([al 4 M1 (.slice b1 l1 c1),al 4 M1 (.slice b2 l2 c2),.int .i64 ((m:Nat):Int)] ++ (JA j 4 M1 3 3 ++ ([.bool false] ++ (JA j 4 M1 7 21 ++ ([.slice (some ⟨M1,0,none⟩) 0 0,al 4 M1 (.slice b1 l1 c1),.slice (some ⟨4,0,none⟩) n1 k1,.int .i64 ((m:Nat):Int)] ++ (JA j 4 M1 32 20))))))
theorem mnep_1 (g0 g1 t1 t2:Tq) (a1 a2:Array Value) (b1 b2:Option Addr) (l1 c1 l2 c2:Nat) (N1 N2:List Int) (m:Nat) (j:Nat→Value) (n1 k1 M1:Nat):evL (yty.enm tabM3 [mMask] 2000004) (oT (cAt [1,1,0] (bdy Tryd.f8))) (((oT (cAt [1,1,0] (bdy Tryd.f8))).toList.drop 3).take 1) ⟨putS ((mnep_m0 g0 g1 t1 t2 a1 a2 b1 b2 l1 c1 l2 c2 N1 N2 m j).map (al 4 M1)) (some 30) (.slice (some ⟨4,0,none⟩) n1 k1),[((wA .u32 64 kL2),g0),((wA .u64 80 kL5),g1),(a1,t1),(a2,t2),((wA .u8 0 []),(5,(0,0)))].set 4 (wA .u8 k1 (([]:List Int) ++ N1),5,(0,0)),True,[]⟩=some ⟨mnep_m1 g0 g1 t1 t2 a1 a2 b1 b2 l1 c1 l2 c2 N1 N2 m j n1 k1 M1,[((wA .u32 64 kL2),g0),((wA .u64 80 kL5),g1),(a1,t1),(a2,t2),((wA .u8 k1 (([]:List Int) ++ N1)),(5,(0,0)))],(True∧True),[]⟩:=by kernel_rfl
def mnep_b (g0 g1 t1 t2:Tq) (a1 a2:Array Value) (b1 b2:Option Addr) (l1 c1 l2 c2:Nat) (N1 N2:List Int) (m:Nat) (j:Nat→Value) (n1 k1 M1:Nat) (n2 k2 M2:Nat):List Value:=([al 4 M2 (al 4 M1 (.slice b1 l1 c1)),al 4 M2 (al 4 M1 (.slice b2 l2 c2)),.int .i64 ((m:Nat):Int),al 4 M2 (al 4 M1 (j 3)),al 4 M2 (al 4 M1 (j 4)),al 4 M2 (al 4 M1 (j 5)),.bool false,.slice (some ⟨4,0,none⟩) n2 k2,al 4 M2 (al 4 M1 (j 8)),al 4 M2 (al 4 M1 (j 9)),al 4 M2 (al 4 M1 (j 10)),al 4 M2 (al 4 M1 (j 11)),al 4 M2 (al 4 M1 (j 12)),al 4 M2 (al 4 M1 (j 13)),al 4 M2 (al 4 M1 (j 14)),al 4 M2 (al 4 M1 (j 15)),al 4 M2 (al 4 M1 (j 16)),al 4 M2 (al 4 M1 (j 17)),al 4 M2 (al 4 M1 (j 18)),al 4 M2 (al 4 M1 (j 19)),al 4 M2 (al 4 M1 (j 20)),al 4 M2 (al 4 M1 (j 21)),al 4 M2 (al 4 M1 (j 22)),al 4 M2 (al 4 M1 (j 23)),al 4 M2 (al 4 M1 (j 24)),al 4 M2 (al 4 M1 (j 25)),al 4 M2 (al 4 M1 (j 26)),al 4 M2 (al 4 M1 (j 27)),al 4 M2 (.slice (some ⟨M1,0,none⟩) 0 0),al 4 M2 (al 4 M1 (.slice b1 l1 c1)),.slice (some ⟨M2,0,none⟩) n1 k1,.int .i64 ((m:Nat):Int),.slice (some ⟨4,0,none⟩) n2 k2,al 4 M2 (al 4 M1 (j 33)),al 4 M2 (al 4 M1 (j 34)),al 4 M2 (al 4 M1 (j 35)),al 4 M2 (al 4 M1 (j 36)),al 4 M2 (al 4 M1 (j 37)),al 4 M2 (al 4 M1 (j 38)),al 4 M2 (al 4 M1 (j 39)),al 4 M2 (al 4 M1 (j 40)),al 4 M2 (al 4 M1 (j 41)),al 4 M2 (al 4 M1 (j 42)),al 4 M2 (al 4 M1 (j 43)),al 4 M2 (al 4 M1 (j 44)),al 4 M2 (al 4 M1 (j 45)),al 4 M2 (al 4 M1 (j 46)),al 4 M2 (al 4 M1 (j 47)),al 4 M2 (al 4 M1 (j 48)),al 4 M2 (al 4 M1 (j 49)),al 4 M2 (al 4 M1 (j 50)),al 4 M2 (al 4 M1 (j 51))])
theorem mnep_e (g0 g1 t1 t2:Tq) (a1 a2:Array Value) (b1 b2:Option Addr) (l1 c1 l2 c2:Nat) (N1 N2:List Int) (m:Nat) (j:Nat→Value) (n1 k1 M1:Nat) (n2 k2 M2:Nat):evL (yty.enm tabM3 [mMask] 2000004) (oT (cAt [1,1,0] (bdy Tryd.f8))) (((oT (cAt [1,1,0] (bdy Tryd.f8))).toList.drop 3).drop 2) ⟨putS ((mnep_m1 g0 g1 t1 t2 a1 a2 b1 b2 l1 c1 l2 c2 N1 N2 m j n1 k1 M1).map (al 4 M2)) (some 32) (.slice (some ⟨4,0,none⟩) n2 k2),[((wA .u32 64 kL2),g0),((wA .u64 80 kL5),g1),(a1,t1),(a2,t2),((wA .u8 k1 (([]:List Int) ++ N1)),(5,(0,0)))].set 4 (wA .u8 k2 ((([]:List Int) ++ N1) ++ (List.replicate m (0:Int))),5,(0,0)),True,[]⟩=some ⟨mnep_b g0 g1 t1 t2 a1 a2 b1 b2 l1 c1 l2 c2 N1 N2 m j n1 k1 M1 n2 k2 M2,[((wA .u32 64 kL2),g0),((wA .u64 80 kL5),g1),(a1,t1),(a2,t2),((wA .u8 k2 ((([]:List Int) ++ N1) ++ (List.replicate m (0:Int)))),(5,(0,0)))],(True∧True),[]⟩:=by kernel_rfl
theorem mne (g0 g1 t1 t2:Tq) (a1 a2:Array Value) (b1 b2:Option Addr) (l1 c1 l2 c2:Nat) (N1 N2:List Int) (m:Nat) (j:Nat→Value) (hk:BytesOk [(wA .u32 64 kL2,g0),(wA .u64 80 kL5,g1),(a1,t1),(a2,t2)] b1 l1 c1) (hN1:bytesOf [(wA .u32 64 kL2,g0),(wA .u64 80 kL5,g1),(a1,t1),(a2,t2)] b1 l1=N1) (ht:BytesOk [(wA .u32 64 kL2,g0),(wA .u64 80 kL5,g1),(a1,t1),(a2,t2)] b2 l2 c2) (hN2:bytesOf [(wA .u32 64 kL2,g0),(wA .u64 80 kL5,g1),(a1,t1),(a2,t2)] b2 l2=N2) (hl1:l1+m≤64) (hl2:l2≤2000)  {c0:Prop} {ch0:List (Option Value)}:Runs Tryd.prog (cAt [1,1,0] (bdy Tryd.f8)) ⟨mnD_s g0 g1 t1 t2 a1 a2 b1 b2 l1 c1 l2 c2 N1 N2 m j,mnD_m g0 g1 t1 t2 a1 a2 b1 b2 l1 c1 l2 c2 N1 N2 m,c0,ch0⟩ (fun e s=>e= .normal∧∃(n2 k2:Nat) (j:Nat→Value) (c:Prop) (ch:List (Option Value)),(n2=l1+m)∧(n2≤k2)∧s=⟨mnE_s g0 g1 t1 t2 a1 a2 b1 b2 l1 c1 l2 c2 N1 N2 m n2 k2 j,mnE_m g0 g1 t1 t2 a1 a2 b1 b2 l1 c1 l2 c2 N1 N2 m n2 k2,c,ch⟩) 2000004:=by
  have hNl:N1.length=l1:=by rw[← hN1];exact hk.len
  have hx1:∀ M,al 4 M (.slice b1 l1 c1)= .slice b1 l1 c1:=fun M=>al_b hk (Nat.le_refl 4)
  have hx2:∀ M,al 4 M (.slice b2 l2 c2)= .slice b2 l2 c2:=fun M=>al_b ht (Nat.le_refl 4)
  refine runs_region (K:=fun s=>∃(n2 k2:Nat) (j:Nat→Value) (c:Prop) (ch:List (Option Value)),(n2=l1+m)∧(n2≤k2)∧s=⟨mnE_s g0 g1 t1 t2 a1 a2 b1 b2 l1 c1 l2 c2 N1 N2 m n2 k2 j,mnE_m g0 g1 t1 t2 a1 a2 b1 b2 l1 c1 l2 c2 N1 N2 m n2 k2,c,ch⟩) (by kernel_rfl) ?_
  have hb0:(([]:List Int)).length+(N1).length≤1099511627776:=(by simp;omega)
  refine runsL_appS (E:=(yty.enm tabM3 [mMask] 2000004)) (x:=(.tmp 28)) (y:=(.tmp 29)) (d:=some 30) (L:=([]:List Int)) (N:=N1) 2 (mnep_0 g0 g1 t1 t2 a1 a2 b1 b2 l1 c1 l2 c2 N1 N2 m j) ⟨trivial,trivial⟩ (by kernel_rfl) apB apB.ht (by decide) (by decide) rfl rfl rfl (Nat.zero_le _) (SrcOk.app (x:= [_]) (hN1 ▸ hk.src)) (by omega) (by omega) (fun n1 k1 M1 c ch hn1 hk1=> ?_)
  try simp only[List.length_append,List.length_cons,List.length_nil,List.length_singleton] at hn1
  have hb1:((([]:List Int) ++ N1)).length+((List.replicate m (0:Int))).length≤1099511627776:=(by simp;omega)
  refine runsL_appSZ (E:=(yty.enm tabM3 [mMask] 2000004)) (x:=(.tmp 30)) (y:=(.tmp 31)) (d:=some 32) (L:=(([]:List Int) ++ N1)) (N:=(List.replicate m (0:Int))) 1 (mnep_1 g0 g1 t1 t2 a1 a2 b1 b2 l1 c1 l2 c2 N1 N2 m j n1 k1 M1) ⟨trivial,trivial⟩ (by kernel_rfl) apB ⟨Tryd.underlying3,Tryd.underlying9⟩ (by decide) (by decide) rfl (by simp;omega) rfl (by simp;omega) ⟨rfl,rfl⟩ (by omega) (by omega) (by constructor<;>omega) (fun n2 k2 M2 c ch hn2 hk2=> ?_)
  try simp only[List.length_append,List.length_cons,List.length_nil,List.length_singleton] at hn2
  refine(runsL_ev _ (mnep_e g0 g1 t1 t2 a1 a2 b1 b2 l1 c1 l2 c2 N1 N2 m j n1 k1 M1 n2 k2 M2) ⟨trivial,trivial⟩).mono ?_
  rintro s hs
  refine⟨n2,k2,fun q=>s.tm.getD q undef,s.c,s.ch,by simp at hn2;omega,hk2,?_⟩
  subst hs
  simp only[mnep_b,hx1,hx2]
  kernel_rfl
abbrev mnG_s (g0 g1 t1 t2:Tq) (a1 a2:Array Value) (b1 b2:Option Addr) (l1 c1 l2 c2:Nat) (N1 N2:List Int) (m:Nat) (n k:Nat) (j:Nat→Value):List Value:=(J j 0 6 ++ ([.bool true] ++ (J j 7 45)))
abbrev mnG_m (g0 g1 t1 t2:Tq) (a1 a2:Array Value) (b1 b2:Option Addr) (l1 c1 l2 c2:Nat) (N1 N2:List Int) (m:Nat) (n k:Nat):List Mb:= [((wA .u32 64 kL2),g0),((wA .u64 80 kL5),g1),(a1,t1),(a2,t2),((wA .u8 k (N1 ++ List.replicate m 0)),(5,(0,0)))]
def mnfp_h (i:Nat):Hn:=⟨0,[],[],[],[]⟩
def mnfp_b (g0 g1 t1 t2:Tq) (a1 a2:Array Value) (b1 b2:Option Addr) (l1 c1 l2 c2:Nat) (N1 N2:List Int) (m:Nat) (n k:Nat) (j:Nat→Value):List Value:=([.slice b1 l1 c1,.slice b2 l2 c2] ++ (J j 2 4 ++ ([.bool true,.slice (some ⟨4,0,none⟩) n k] ++ (J j 8 25 ++ ([.slice (some ⟨4,0,none⟩) n k,.slice b2 l2 c2,.agg (wA .u8 32 (hmac2 (bL (wA .u8 k (N1 ++ List.replicate m 0)) 0 n) (bytesOf [((wA .u32 64 kL2),g0),((wA .u64 80 kL5),g1),(a1,t1),(a2,t2),((wA .u8 k (N1 ++ List.replicate m 0)),(5,(0,0)))] b2 l2))),.slice b1 l1 c1,.slice b2 l2 c2,.agg (wA .u8 32 (hmac2 (bytesOf [((wA .u32 64 kL2),g0),((wA .u64 80 kL5),g1),(a1,t1),(a2,t2),((wA .u8 k (N1 ++ List.replicate m 0)),(5,(0,0)))] b1 l1) (bytesOf [((wA .u32 64 kL2),g0),((wA .u64 80 kL5),g1),(a1,t1),(a2,t2),((wA .u8 k (N1 ++ List.replicate m 0)),(5,(0,0)))] b2 l2))),.bool true,.bool true,.slice (some ⟨4,0,none⟩) n k,.slice b2 l2 c2,.agg (wA .u8 64 (hmac5 (bL (wA .u8 k (N1 ++ List.replicate m 0)) 0 n) (bytesOf [((wA .u32 64 kL2),g0),((wA .u64 80 kL5),g1),(a1,t1),(a2,t2),((wA .u8 k (N1 ++ List.replicate m 0)),(5,(0,0)))] b2 l2))),.slice b1 l1 c1,.slice b2 l2 c2,.agg (wA .u8 64 (hmac5 (bytesOf [((wA .u32 64 kL2),g0),((wA .u64 80 kL5),g1),(a1,t1),(a2,t2),((wA .u8 k (N1 ++ List.replicate m 0)),(5,(0,0)))] b1 l1) (bytesOf [((wA .u32 64 kL2),g0),((wA .u64 80 kL5),g1),(a1,t1),(a2,t2),((wA .u8 k (N1 ++ List.replicate m 0)),(5,(0,0)))] b2 l2))),.bool true,.bool true,.bool true,.bool true,.bool true])))))
theorem mnfp_0 (g0 g1 t1 t2:Tq) (a1 a2:Array Value) (b1 b2:Option Addr) (l1 c1 l2 c2:Nat) (N1 N2:List Int) (m:Nat) (n k:Nat) (j:Nat→Value):evC (yty.enm tabM3 [mMask] 2000004) mnfp_h (cAt [1,1,1] (bdy Tryd.f8)) ⟨mnE_s g0 g1 t1 t2 a1 a2 b1 b2 l1 c1 l2 c2 N1 N2 m n k j,mnE_m g0 g1 t1 t2 a1 a2 b1 b2 l1 c1 l2 c2 N1 N2 m n k,True,[some (.bool true),some (.bool true)]⟩=some (.ret,⟨mnfp_b g0 g1 t1 t2 a1 a2 b1 b2 l1 c1 l2 c2 N1 N2 m n k j,[((wA .u32 64 kL2),g0),((wA .u64 80 kL5),g1),(a1,t1),(a2,t2),((wA .u8 k (N1 ++ List.replicate m 0)),(5,(0,0)))],((((((((((((((((((((True∧True)∧True)∧((wA .u32 64 kL2)=wA .u32 64 kL2∧(wA .u64 80 kL5)=wA .u64 80 kL5∧BytesOk [((wA .u32 64 kL2),g0),((wA .u64 80 kL5),g1),(a1,t1),(a2,t2),((wA .u8 k (N1 ++ List.replicate m 0)),(5,(0,0)))] (some ⟨4,0,none⟩) n k∧BytesOk [((wA .u32 64 kL2),g0),((wA .u64 80 kL5),g1),(a1,t1),(a2,t2),((wA .u8 k (N1 ++ List.replicate m 0)),(5,(0,0)))] b2 l2 c2∧n≤100000000∧l2≤100000000))∧True)∧True)∧((wA .u32 64 kL2)=wA .u32 64 kL2∧(wA .u64 80 kL5)=wA .u64 80 kL5∧BytesOk [((wA .u32 64 kL2),g0),((wA .u64 80 kL5),g1),(a1,t1),(a2,t2),((wA .u8 k (N1 ++ List.replicate m 0)),(5,(0,0)))] b1 l1 c1∧BytesOk [((wA .u32 64 kL2),g0),((wA .u64 80 kL5),g1),(a1,t1),(a2,t2),((wA .u8 k (N1 ++ List.replicate m 0)),(5,(0,0)))] b2 l2 c2∧l1≤100000000∧l2≤100000000))∧((byD.is (wA .u8 32 (hmac2 (bL (wA .u8 k (N1 ++ List.replicate m 0)) 0 n) (bytesOf [((wA .u32 64 kL2),g0),((wA .u64 80 kL5),g1),(a1,t1),(a2,t2),((wA .u8 k (N1 ++ List.replicate m 0)),(5,(0,0)))] b2 l2)))∧byD.is (wA .u8 32 (hmac2 (bytesOf [((wA .u32 64 kL2),g0),((wA .u64 80 kL5),g1),(a1,t1),(a2,t2),((wA .u8 k (N1 ++ List.replicate m 0)),(5,(0,0)))] b1 l1) (bytesOf [((wA .u32 64 kL2),g0),((wA .u64 80 kL5),g1),(a1,t1),(a2,t2),((wA .u8 k (N1 ++ List.replicate m 0)),(5,(0,0)))] b2 l2))))∧(decide (db (wA .u8 32 (hmac2 (bL (wA .u8 k (N1 ++ List.replicate m 0)) 0 n) (bytesOf [((wA .u32 64 kL2),g0),((wA .u64 80 kL5),g1),(a1,t1),(a2,t2),((wA .u8 k (N1 ++ List.replicate m 0)),(5,(0,0)))] b2 l2)))=db (wA .u8 32 (hmac2 (bytesOf [((wA .u32 64 kL2),g0),((wA .u64 80 kL5),g1),(a1,t1),(a2,t2),((wA .u8 k (N1 ++ List.replicate m 0)),(5,(0,0)))] b1 l1) (bytesOf [((wA .u32 64 kL2),g0),((wA .u64 80 kL5),g1),(a1,t1),(a2,t2),((wA .u8 k (N1 ++ List.replicate m 0)),(5,(0,0)))] b2 l2)))))=true))∧True)∧True)∧True)∧((wA .u32 64 kL2)=wA .u32 64 kL2∧(wA .u64 80 kL5)=wA .u64 80 kL5∧BytesOk [((wA .u32 64 kL2),g0),((wA .u64 80 kL5),g1),(a1,t1),(a2,t2),((wA .u8 k (N1 ++ List.replicate m 0)),(5,(0,0)))] (some ⟨4,0,none⟩) n k∧BytesOk [((wA .u32 64 kL2),g0),((wA .u64 80 kL5),g1),(a1,t1),(a2,t2),((wA .u8 k (N1 ++ List.replicate m 0)),(5,(0,0)))] b2 l2 c2∧n≤100000000∧l2≤100000000))∧True)∧True)∧((wA .u32 64 kL2)=wA .u32 64 kL2∧(wA .u64 80 kL5)=wA .u64 80 kL5∧BytesOk [((wA .u32 64 kL2),g0),((wA .u64 80 kL5),g1),(a1,t1),(a2,t2),((wA .u8 k (N1 ++ List.replicate m 0)),(5,(0,0)))] b1 l1 c1∧BytesOk [((wA .u32 64 kL2),g0),((wA .u64 80 kL5),g1),(a1,t1),(a2,t2),((wA .u8 k (N1 ++ List.replicate m 0)),(5,(0,0)))] b2 l2 c2∧l1≤100000000∧l2≤100000000))∧((isBL 64 (wA .u8 64 (hmac5 (bL (wA .u8 k (N1 ++ List.replicate m 0)) 0 n) (bytesOf [((wA .u32 64 kL2),g0),((wA .u64 80 kL5),g1),(a1,t1),(a2,t2),((wA .u8 k (N1 ++ List.replicate m 0)),(5,(0,0)))] b2 l2)))∧isBL 64 (wA .u8 64 (hmac5 (bytesOf [((wA .u32 64 kL2),g0),((wA .u64 80 kL5),g1),(a1,t1),(a2,t2),((wA .u8 k (N1 ++ List.replicate m 0)),(5,(0,0)))] b1 l1) (bytesOf [((wA .u32 64 kL2),g0),((wA .u64 80 kL5),g1),(a1,t1),(a2,t2),((wA .u8 k (N1 ++ List.replicate m 0)),(5,(0,0)))] b2 l2))))∧(intsOf (wA .u8 64 (hmac5 (bL (wA .u8 k (N1 ++ List.replicate m 0)) 0 n) (bytesOf [((wA .u32 64 kL2),g0),((wA .u64 80 kL5),g1),(a1,t1),(a2,t2),((wA .u8 k (N1 ++ List.replicate m 0)),(5,(0,0)))] b2 l2))) == intsOf (wA .u8 64 (hmac5 (bytesOf [((wA .u32 64 kL2),g0),((wA .u64 80 kL5),g1),(a1,t1),(a2,t2),((wA .u8 k (N1 ++ List.replicate m 0)),(5,(0,0)))] b1 l1) (bytesOf [((wA .u32 64 kL2),g0),((wA .u64 80 kL5),g1),(a1,t1),(a2,t2),((wA .u8 k (N1 ++ List.replicate m 0)),(5,(0,0)))] b2 l2))))=true))∧True)∧True)∧((wA .u32 64 kL2)=wA .u32 64 kL2∧(wA .u64 80 kL5)=wA .u64 80 kL5))∧True)∧True),[]⟩):=by kernel_rfl
theorem mnf (g0 g1 t1 t2:Tq) (a1 a2:Array Value) (b1 b2:Option Addr) (l1 c1 l2 c2:Nat) (N1 N2:List Int) (m:Nat) (n k:Nat) (j:Nat→Value) (hk:BytesOk [(wA .u32 64 kL2,g0),(wA .u64 80 kL5,g1),(a1,t1),(a2,t2)] b1 l1 c1) (hN1:bytesOf [(wA .u32 64 kL2,g0),(wA .u64 80 kL5,g1),(a1,t1),(a2,t2)] b1 l1=N1) (ht:BytesOk [(wA .u32 64 kL2,g0),(wA .u64 80 kL5,g1),(a1,t1),(a2,t2)] b2 l2 c2) (hN2:bytesOf [(wA .u32 64 kL2,g0),(wA .u64 80 kL5,g1),(a1,t1),(a2,t2)] b2 l2=N2) (hl1:l1+m≤64) (hl2:l2≤2000) (hn:n=l1+m) (hkk:n≤k)  {c0:Prop} {ch0:List (Option Value)}:Runs Tryd.prog (cAt [1,1,1] (bdy Tryd.f8)) ⟨mnE_s g0 g1 t1 t2 a1 a2 b1 b2 l1 c1 l2 c2 N1 N2 m n k j,mnE_m g0 g1 t1 t2 a1 a2 b1 b2 l1 c1 l2 c2 N1 N2 m n k,c0,ch0⟩ (fun e s=>e= .ret∧∃(j:Nat→Value) (c:Prop) (ch:List (Option Value)),s=⟨mnG_s g0 g1 t1 t2 a1 a2 b1 b2 l1 c1 l2 c2 N1 N2 m n k j,mnG_m g0 g1 t1 t2 a1 a2 b1 b2 l1 c1 l2 c2 N1 N2 m n k,c,ch⟩) 2000004:=by
  have hNl:N1.length=l1:=by rw[← hN1];exact hk.len
  have hNb:∀ x ∈ N1,0≤x∧x<256:=by rw[← hN1];exact hk.bt
  have hz:bL (wA .u8 k (N1 ++ List.replicate m 0)) 0 n=N1 ++ List.replicate m 0:=bLk (by simp;omega) hkk
  have ha:∀ x,bytesOf ([(wA .u32 64 kL2,g0),(wA .u64 80 kL5,g1),(a1,t1),(a2,t2)] ++ [x]) b1 l1=N1:=fun x=>by rw[← hN1];exact(hk.app (x:= [x])).2
  have e1:∀ x N,hmac2 (bL (wA .u8 k (N1 ++ List.replicate m 0)) 0 n) N=hmac2 (bytesOf ([(wA .u32 64 kL2,g0),(wA .u64 80 kL5,g1),(a1,t1),(a2,t2)] ++ [x]) b1 l1) N:=fun x N=>by rw[hz,ha,zs_hm2 (by omega)]
  have e2:∀ x N,hmac5 (bL (wA .u8 k (N1 ++ List.replicate m 0)) 0 n) N=hmac5 (bytesOf ([(wA .u32 64 kL2,g0),(wA .u64 80 kL5,g1),(a1,t1),(a2,t2)] ++ [x]) b1 l1) N:=fun x N=>by rw[hz,ha,zs_hm5 (by omega)]
  have h0:(decide (db (wA .u8 32 (hmac2 (bL (wA .u8 k (N1 ++ List.replicate m 0)) 0 n) (bytesOf [((wA .u32 64 kL2),g0),((wA .u64 80 kL5),g1),(a1,t1),(a2,t2),((wA .u8 k (N1 ++ List.replicate m 0)),(5,(0,0)))] b2 l2)))=db (wA .u8 32 (hmac2 (bytesOf [((wA .u32 64 kL2),g0),((wA .u64 80 kL5),g1),(a1,t1),(a2,t2),((wA .u8 k (N1 ++ List.replicate m 0)),(5,(0,0)))] b1 l1) (bytesOf [((wA .u32 64 kL2),g0),((wA .u64 80 kL5),g1),(a1,t1),(a2,t2),((wA .u8 k (N1 ++ List.replicate m 0)),(5,(0,0)))] b2 l2)))))=true:=(decide_eq_true (congrArg db (congrArg (wA .u8 32) (e1 _ _))))
  have h1:(intsOf (wA .u8 64 (hmac5 (bL (wA .u8 k (N1 ++ List.replicate m 0)) 0 n) (bytesOf [((wA .u32 64 kL2),g0),((wA .u64 80 kL5),g1),(a1,t1),(a2,t2),((wA .u8 k (N1 ++ List.replicate m 0)),(5,(0,0)))] b2 l2))) == intsOf (wA .u8 64 (hmac5 (bytesOf [((wA .u32 64 kL2),g0),((wA .u64 80 kL5),g1),(a1,t1),(a2,t2),((wA .u8 k (N1 ++ List.replicate m 0)),(5,(0,0)))] b1 l1) (bytesOf [((wA .u32 64 kL2),g0),((wA .u64 80 kL5),g1),(a1,t1),(a2,t2),((wA .u8 k (N1 ++ List.replicate m 0)),(5,(0,0)))] b2 l2))))=true:=(by rw[show _=_ from congrArg (fun x=>intsOf (wA .u8 64 x)) (e2 (_,_) _)];exact beq_self_eq_true _)
  refine(runs_ev mixed _ (mnfp_0 g0 g1 t1 t2 a1 a2 b1 b2 l1 c1 l2 c2 N1 N2 m n k j) ⟨⟨⟨⟨⟨⟨⟨⟨⟨⟨⟨⟨⟨⟨⟨⟨⟨⟨⟨⟨trivial,trivial⟩,trivial⟩,⟨rfl,rfl,(.inr ⟨4,0,_,_,rfl,rfl,bt_k hkk (zs_bt hNb m),by rw[wA_size];omega,hkk⟩),(ht.app (x:=_)).1,by omega,by omega⟩⟩,trivial⟩,trivial⟩,⟨rfl,rfl,(hk.app (x:=_)).1,(ht.app (x:=_)).1,by omega,by omega⟩⟩,⟨⟨by_is (sh2_len _) (sh2_bt _),by_is (sh2_len _) (sh2_bt _)⟩,h0⟩⟩,trivial⟩,trivial⟩,trivial⟩,⟨rfl,rfl,(.inr ⟨4,0,_,_,rfl,rfl,bt_k hkk (zs_bt hNb m),by rw[wA_size];omega,hkk⟩),(ht.app (x:=_)).1,by omega,by omega⟩⟩,trivial⟩,trivial⟩,⟨rfl,rfl,(hk.app (x:=_)).1,(ht.app (x:=_)).1,by omega,by omega⟩⟩,⟨⟨⟨_,sh5_len _,wA_iv (sh5_len _)⟩,⟨_,sh5_len _,wA_iv (sh5_len _)⟩⟩,h1⟩⟩,trivial⟩,trivial⟩,⟨rfl,rfl⟩⟩,trivial⟩,trivial⟩).mono ?_
  rintro e s ⟨rfl,hs⟩
  refine⟨rfl,fun q=>s.tm.getD q undef,s.c,s.ch,?_⟩
  subst hs
  kernel_rfl
theorem mnu (g0 g1 t1 t2:Tq) (a1 a2:Array Value) (b1 b2:Option Addr) (l1 c1 l2 c2:Nat) (N1 N2:List Int) (m:Nat) (j:Nat→Value) (hk:BytesOk [(wA .u32 64 kL2,g0),(wA .u64 80 kL5,g1),(a1,t1),(a2,t2)] b1 l1 c1) (hN1:bytesOf [(wA .u32 64 kL2,g0),(wA .u64 80 kL5,g1),(a1,t1),(a2,t2)] b1 l1=N1) (ht:BytesOk [(wA .u32 64 kL2,g0),(wA .u64 80 kL5,g1),(a1,t1),(a2,t2)] b2 l2 c2) (hN2:bytesOf [(wA .u32 64 kL2,g0),(wA .u64 80 kL5,g1),(a1,t1),(a2,t2)] b2 l2=N2) (hl1:l1+m≤64) (hl2:l2≤2000)  {c0:Prop} {ch0:List (Option Value)}:Runs Tryd.prog (cAt [] (bdy Tryd.f8)) ⟨mnC_s g0 g1 t1 t2 a1 a2 b1 b2 l1 c1 l2 c2 N1 N2 m j,mnC_m g0 g1 t1 t2 a1 a2 b1 b2 l1 c1 l2 c2 N1 N2 m,c0,ch0⟩ (fun e s=>e= .ret∧∃(n22:Nat) (k22:Nat) (j:Nat→Value) (c:Prop) (ch:List (Option Value)),(n22=l1+m)∧(n22≤k22)∧s=⟨mnG_s g0 g1 t1 t2 a1 a2 b1 b2 l1 c1 l2 c2 N1 N2 m n22 k22 j,mnG_m g0 g1 t1 t2 a1 a2 b1 b2 l1 c1 l2 c2 N1 N2 m n22 k22,c,ch⟩) 2000004:=by
  rw[show(cAt [] (bdy Tryd.f8))=(.seq (cAt [0] (bdy Tryd.f8)) (.seq (cAt [1,0] (bdy Tryd.f8)) (.seq (cAt [1,1,0] (bdy Tryd.f8)) (cAt [1,1,1] (bdy Tryd.f8))))) from by kernel_rfl]
  refine runs_seq (mnc g0 g1 t1 t2 a1 a2 b1 b2 l1 c1 l2 c2 N1 N2 m j hk hN1 ht hN2 hl1 hl2 ) (fun s hh=> ?_) (fun e s hne hh=>absurd hh.1 hne)
  obtain⟨_,j,c,ch,rfl⟩:=hh
  refine runs_seq (mnd g0 g1 t1 t2 a1 a2 b1 b2 l1 c1 l2 c2 N1 N2 m j hk hN1 ht hN2 hl1 hl2 ) (fun s hh=> ?_) (fun e s hne hh=>absurd hh.1 hne)
  obtain⟨_,j,c,ch,rfl⟩:=hh
  refine runs_seq (mne g0 g1 t1 t2 a1 a2 b1 b2 l1 c1 l2 c2 N1 N2 m j hk hN1 ht hN2 hl1 hl2 ) (fun s hh=> ?_) (fun e s hne hh=>absurd hh.1 hne)
  obtain⟨_,n22,k22,j,c,ch,f2_6,f2_7,rfl⟩:=hh
  refine(mnf g0 g1 t1 t2 a1 a2 b1 b2 l1 c1 l2 c2 N1 N2 m n22 k22 j hk hN1 ht hN2 hl1 hl2 f2_6 f2_7 ).mono ?_
  rintro e s ⟨rfl,j,c,ch,rfl⟩
  exact⟨rfl,n22,k22,j,c,ch,f2_6,f2_7,rfl⟩
theorem Noughts_c (g0 g1 t1 t2:Tq) (a1 a2:Array Value) (b1 b2:Option Addr) (l1 c1 l2 c2:Nat) (z:Int) (hk:BytesOk [(wA .u32 64 kL2,g0),(wA .u64 80 kL5,g1),(a1,t1),(a2,t2)] b1 l1 c1) (ht:BytesOk [(wA .u32 64 kL2,g0),(wA .u64 80 kL5,g1),(a1,t1),(a2,t2)] b2 l2 c2):Reads Tryd.prog 8 [(wA .u32 64 kL2,g0),(wA .u64 80 kL5,g1),(a1,t1),(a2,t2)] [.slice b1 l1 c1,.slice b2 l2 c2,.int .i64 z] (.bool true) 2:=by
  refine reads_runs (fk:=2000004) (yty.enm tabM3 [mMask] 2000004) Tryd.func8 (c:=bdy Tryd.f8) (by kernel_rfl) ⟨len4 _ _ _ _,by decide⟩ (args:= [.slice b1 l1 c1,.slice b2 l2 c2,.int .i64 z]) (by show(Go.Ev.okp 4 (.slice b1 l1 c1) && (Go.Ev.okp 4 (.slice b2 l2 c2) && (Go.Ev.okp 4 (.int .i64 z) && true)))=true;rw[show Go.Ev.okp 4 (.slice b1 l1 c1)=true from hk.okp,show Go.Ev.okp 4 (.slice b2 l2 c2)=true from ht.okp];rfl) (K:=fun e s=>e= .ret∧resS (yty.enm tabM3 [mMask] 2000004) s Tryd.f8.results.toList=some [.bool true]) ?_ (fun e s h=>⟨h.1,_,h.2,rfl⟩)
  generalize h1:bytesOf [(wA .u32 64 kL2,g0),(wA .u64 80 kL5,g1),(a1,t1),(a2,t2)] b1 l1=N1
  generalize h2:bytesOf [(wA .u32 64 kL2,g0),(wA .u64 80 kL5,g1),(a1,t1),(a2,t2)] b2 l2=N2
  by_cases e1:64<l1
  · refine (mnx0 g0 g1 t1 t2 a1 a2 b1 b2 l1 c1 l2 c2 N1 N2 z (fun _ => undef) hk h1 ht h2 e1).mono ?_
    rintro e s ⟨rfl,j,c,ch,rfl⟩
    exact⟨rfl,by kernel_rfl⟩
  by_cases e2:2000<l2
  · refine (mnx1 g0 g1 t1 t2 a1 a2 b1 b2 l1 c1 l2 c2 N1 N2 z (fun _ => undef) hk h1 ht h2 e1 e2).mono ?_
    rintro e s ⟨rfl,j,c,ch,rfl⟩
    exact⟨rfl,by kernel_rfl⟩
  by_cases e3:z<0
  · refine (mnx2 g0 g1 t1 t2 a1 a2 b1 b2 l1 c1 l2 c2 N1 N2 z (fun _ => undef) hk h1 ht h2 e1 e2 e3).mono ?_
    rintro e s ⟨rfl,j,c,ch,rfl⟩
    exact⟨rfl,by kernel_rfl⟩
  by_cases e4:64 - (l1:Int)<z
  · refine (mnx3 g0 g1 t1 t2 a1 a2 b1 b2 l1 c1 l2 c2 N1 N2 z (fun _ => undef) hk h1 ht h2 e1 e2 e3 e4).mono ?_
    rintro e s ⟨rfl,j,c,ch,rfl⟩
    exact⟨rfl,by kernel_rfl⟩
  obtain⟨m,rfl⟩:∃ m:Nat,z=((m:Nat):Int):=⟨z.toNat,by omega⟩
  refine(mnu g0 g1 t1 t2 a1 a2 b1 b2 l1 c1 l2 c2 N1 N2 m (fun _=>undef) hk h1 ht h2 (by omega) (by omega)).mono ?_
  rintro e s ⟨rfl,hh⟩
  obtain⟨n,k,j,c,ch,hn,hkk,rfl⟩:=hh
  exact⟨rfl,by kernel_rfl⟩
end Go.Proofs.YtmpjlammofgicaaDoor

set_option linter.unusedSimpArgs false
set_option linter.unusedVariables false
/-! Texts that are handed in, beside the two tables. -/
namespace Go.Proofs.YtmpjlammofgicaaDoor
open Go.RowKit Go.Ev
theorem pick {W:World} {bp:Option Addr} {l cp:Nat} {N:List Int} {x0 x1:Mb} (h:(bp=none∧l=0∧cp=0∧N= [])∨∃(b o:Nat) (src:Array Value) (st:Tq),bp=some ⟨b,o,none⟩∧W.heap[b]? =some (.cells src st.1 st.2)∧l≤cp∧o+l≤src.size∧∀ i,i<l→src[o+i]? =some (.int .u8 (N.getD i 0))) (hb:∀ i,i<l→0≤N.getD i 0∧N.getD i 0<256) (hH:Has W (fun i=>i) [x0,x1]):
    ∃(a:Array Value) (t:Tq) (y:Nat),W.heap[y]? =some (.cells a t.1 t.2)∧∃ q:Nat→Option Addr,(∀(i:Nat) (mem:List Mb),mem[i]? =some (a,t)→BytesOk mem (q i) l cp)∧∀(i:Nat) (β:Nat→Nat),β i=y→rn β (.slice (q i) l cp)= .slice bp l cp:=by
  rcases h with⟨rfl,rfl,rfl,rfl⟩|⟨b,o,src,st,rfl,hh,hcp,hz,hc⟩
  · exact⟨x0.1,x0.2,0,hH 0 x0 rfl,fun _=>none,fun i mem _=> .inl ⟨rfl,rfl,rfl⟩,fun i β _=>rfl⟩
  · refine ⟨src, st, b, hh, fun i => some ⟨i, o, none⟩, fun i mem hm => .inr ⟨i, o, src, st, rfl, hm, fun j hj => ?_, hz, hcp⟩, fun i β hβ => by simp only [rn, hβ]⟩
    have e:iat src (o+j)=N.getD j 0:=by unfold iat;rw[hc j hj]
    rw[e]
    exact⟨hc j hj,hb j hj⟩
theorem has4 {W:World} {x0 x1:Mb} {b b':Nat} {src src':Array Value} {st st':Tq} (h:Has W (fun i=>i) [x0,x1]) (hh:W.heap[b]? =some (.cells src st.1 st.2)) (hh':W.heap[b']? =some (.cells src' st'.1 st'.2)):Has W (fun i=>if i=2 then b else if i=3 then b' else i) [x0,x1,(src,st),(src',st')]:=fun j x hx=>by
  match j,hx with
  |0,hx=>exact h 0 x hx
  |1,hx=>exact h 1 x hx
  | 2, hx =>
    simp only[List.getElem?_cons_succ,List.getElem?_cons_zero,Option.some.injEq] at hx
    subst hx;exact hh
  | 3, hx =>
    simp only[List.getElem?_cons_succ,List.getElem?_cons_zero,Option.some.injEq] at hx
    subst hx;exact hh'
  |j+4,hx=>simp at hx
end Go.Proofs.YtmpjlammofgicaaDoor
