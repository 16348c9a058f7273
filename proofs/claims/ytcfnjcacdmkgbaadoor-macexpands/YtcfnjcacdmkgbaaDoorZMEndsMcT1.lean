import Derived.Test.YtcfnjcacdmkgbaaDoorZMEndsMcC1
import Derived.Test.YtcfnjcacdmkgbaaDoorZMEndsEvW1
import Derived.Test.YtcfnjcacdmkgbaaDoorZMEndsSdS1
set_option linter.unusedSimpArgs false
set_option linter.unusedVariables false
/-! mac: what is expanded. -/
namespace Go.Proofs.YtcfnjcacdmkgbaaDoor
open Go.RowKit Go.Ev
variable {c0:Prop} {ch0:List (Option Value)}
def tK (B:Array Value) (I:List Int):Nat→List Int
  |0=> []
  |i+1=>hm2 B (tK B I i ++ I ++ [(((i+1)%256:Nat):Int)])
def okN (B:Array Value) (I:List Int) (n:Nat):List Int:=(List.range n).map fun j=>(tK B I (j / 32+1)).getD (j%32) 0
theorem hm2_len (B:Array Value) (N:List Int):(hm2 B N).length=32:=sh2_len _
theorem hm2_bt (B:Array Value) (N:List Int):∀ x ∈ hm2 B N,0≤x∧x<256:=sh2_bt _
theorem tK_len (B:Array Value) (I:List Int) (i:Nat):(tK B I (i+1)).length=32:=hm2_len _ _
theorem okN_len (B:Array Value) (I:List Int) (n:Nat):(okN B I n).length=n:=by simp[okN]
theorem okN_step (B:Array Value) (I:List Int) (n:Nat):okN B I (n+1)=okN B I n ++ [(tK B I (n / 32+1)).getD (n%32) 0]:=by
  unfold okN
  rw[List.range_succ,List.map_append];rfl
theorem take_succ_getD (L:List Int) (q:Nat) (h:q<L.length):L.take (q+1)=L.take q ++ [L.getD q 0]:=by
  rw[List.take_add_one,List.getD_eq_getElem?_getD,List.getElem?_eq_getElem h];rfl
theorem okN_add (B:Array Value) (I:List Int) (i:Nat):∀ q,q≤32→okN B I (32*i+q)=okN B I (32*i) ++ (tK B I (i+1)).take q
  |0,_=>by simp
  | q + 1, h => by
    rw[← Nat.add_assoc,okN_step,okN_add B I i q (by omega),take_succ_getD _ _ (by rw[tK_len];omega),List.append_assoc,show(32*i+q) / 32=i by omega,show(32*i+q)%32=q by omega]
theorem okN_bt (B:Array Value) (I:List Int) (n:Nat):∀ x ∈ okN B I n,0≤x∧x<256:=fun x hx=>by
  unfold okN at hx
  obtain⟨j,hj,rfl⟩:=List.mem_map.1 hx
  rw[List.getD_eq_getElem?_getD,List.getElem?_eq_getElem (by rw[tK_len];omega)]
  exact hm2_bt _ _ _ (List.getElem_mem _)
theorem ov_b {mem:List Mb} {bp:Option Addr} {l cp i n M:Nat} (h:BytesOk mem bp l cp) (h1:mem.length≤i) (h2:mem.length≤n):ov i n M (.slice bp l cp)= .slice bp l cp:=by
  rcases h with⟨rfl,rfl,rfl⟩|⟨j,o,src,st,rfl,hm,_⟩
  · rfl
  · have hj := (List.getElem?_eq_some_iff.1 hm).1
    simp only[ov]
    rw[if_neg (by omega),if_neg (by omega)]
theorem dn_b {mem:List Mb} {bp:Option Addr} {l cp n M:Nat} (h:BytesOk mem bp l cp) (h2:mem.length≤n):dn n M (.slice bp l cp)= .slice bp l cp:=by
  rcases h with⟨rfl,rfl,rfl⟩|⟨j,o,src,st,rfl,hm,_⟩
  · rfl
  · have hj := (List.getElem?_eq_some_iff.1 hm).1
    simp only[dn]
    rw[if_neg (by omega)]
theorem row_len {Z I:List Int} {x:Int} {z l:Nat} (hz:Z.length=z) (hl:I.length=l):(Z ++ I ++ [x]).length=z+l+1:=by rw[List.length_append,List.length_append,hz,hl];rfl
theorem row_bt {Z I:List Int} {x:Int} (hz:∀ y ∈ Z,0≤y∧y<256) (hl:∀ y ∈ I,0≤y∧y<256) (hx:0≤x∧x<256):∀ y ∈ Z ++ I ++ [x],0≤y∧y<256:=app_bt (app_bt hz hl) (fun y hy=>by simp at hy;subst hy;exact hx)
theorem cp_sum {n p q off : Nat} {X S : List Int} (hX : X.length = p) (hS : S.length = 32) (hq : q = Nat.min 32 (n - p)) (hp : p < n) (ho : off = p) : (off + q ≤ (wA .u8 n X).size ∧ 0 + q ≤ (wA .u8 32 S).size) ∧ ((wA .u8 32 S).extract 0 (0 + q)).all (fun v => v.oneCell') = true ∧ Calm.splice (wA .u8 n X) off ((wA .u8 32 S).extract 0 (0 + q)) = wA .u8 n (X ++ S.take q) := by
  have hq':q=min 32 (n - p):=hq
  subst ho
  have hsz:((wA .u8 32 S).extract 0 (0+q)).size=q:=by rw[Array.size_extract,wA_size];omega
  have hat:∀ j,j<q→((wA .u8 32 S).extract 0 (0+q))[j]? =some (.int .u8 (S.getD j 0)):=fun j hj=>by
    rw[Array.getElem?_extract_of_lt (by rw[wA_size];omega),← Array.getElem?_eq_getElem,Nat.zero_add,wA_at (by omega)]
  refine⟨⟨by rw[wA_size];omega,by rw[wA_size];omega⟩,?_,?_⟩
  · rw [Array.all_eq_true]
    intro i hi
    have:=hat i (by omega)
    rw[Array.getElem?_eq_getElem hi] at this
    rw[Option.some.inj this];rfl
  · refine wA_ext ?_ (fun i hi => ?_)
    · unfold Calm.splice
      simp[hsz,wA_size]
      omega
    · have hm2 : (wA .u8 n X).toList.length = n := by rw [Array.length_toList, wA_size]
      unfold Calm.splice
      rw[List.getElem?_toArray,List.getElem?_append,List.getElem?_append,List.length_append,List.length_take,hm2,Array.length_toList,hsz,getD_app]
      by_cases h:i<off
      · rw[if_pos (by omega),if_pos (by omega),List.getElem?_take_of_lt h,Array.getElem?_toList,wA_at hi,if_pos (by omega)]
      · by_cases h3 : i < off + q
        · rw [if_pos (by omega), if_neg (by omega), Array.getElem?_toList, hat _ (by omega), if_neg (by omega), hX]
          rw[show i - min off n=i - off by omega]
          congr 2
          rw[List.getD_eq_getElem?_getD,List.getD_eq_getElem?_getD,List.getElem?_take_of_lt (by omega)]
        · rw [if_neg (by omega), if_neg (by omega), List.getElem?_drop, Array.getElem?_toList, wA_at (by omega)]
          congr 2
          rw[List.getD_eq_getElem?_getD,List.getD_eq_getElem?_getD,List.getElem?_eq_none (by omega),List.getElem?_eq_none (by rw[List.length_take];omega)]
def xpA_h (i:Nat):Hn:=if i=6 then⟨7,[],[],[],[]⟩ else if i=7 then⟨0,[(0,true),(1,true),(2,true),(4,true),(3,true),(5,false),(6,true),(7,false)],[],[0,1,2,3,5,6],[]⟩ else⟨0,[],[],[],[]⟩
abbrev xpA_R (w:List Nat) (S:FS) (e:Exit) (K:FS→Prop):Prop:=Rn Tryd.prog (cAt w (bdy Tryd.f39)) S e K 2000003
structure xpA_c (g0 g1 t:Tq) (a:Array Value) (bp:Option Addr) (l cp n:Nat) (L I:List Int):Prop where
  hI:BytesOk [(wA .u32 64 kL2,g0),(wA .u64 80 kL5,g1),(a,t)] bp l cp
  hIe:bytesOf [(wA .u32 64 kL2,g0),(wA .u64 80 kL5,g1),(a,t)] bp l=I
  hl:l≤10000000
  hn:n≤8160
  hL:∀ x ∈ L,0≤x∧x<256
variable {g0 g1 t:Tq} {a:Array Value} {bp:Option Addr} {l cp n:Nat} {L I:List Int} {k_1:xpA_c g0 g1 t a bp l cp n L I}
abbrev xpA (_:xpA_c g0 g1 t a bp l cp n L I):FS:=⟨true,34,[(0,.agg (wA .u8 64 L)),(1,.slice bp l cp),(2,.int .i64 (n:Int))],[((wA .u32 64 kL2),g0),((wA .u64 80 kL5),g1),(a,t)]⟩
abbrev xpB (_:xpA_c g0 g1 t a bp l cp n L I):FS:=⟨false,34,[(1,.slice bp l cp),(2,.int .i64 (n:Int)),(3,.pointer (some ⟨3,0,none⟩))],[((wA .u32 64 kL2),g0),((wA .u64 80 kL5),g1),(a,t),((wA .u8 64 L),(29,(0,0)))]⟩
theorem xp0:xpA_R [0] (xpA k_1) .normal (fun z_=>z_=xpB k_1):=rn_ev (yty.enm tabM1 [mMask,mNum] 2000003) xpA_h mixed _ none [] [] 1 (fun j M=>by kernel_rfl) A0 rfl
abbrev xpC (_:xpA_c g0 g1 t a bp l cp n L I):FS:=⟨false,34,[(1,.slice bp l cp),(2,.int .i64 (n:Int)),(3,.pointer (some ⟨3,0,none⟩)),(7,.slice (some ⟨4,0,none⟩) n n)],[((wA .u32 64 kL2),g0),((wA .u64 80 kL5),g1),(a,t),((wA .u8 64 L),(29,(0,0))),((wA .u8 n []),(5,(0,0)))]⟩
theorem xp1:xpA_R [1,0] (xpB k_1) .normal (fun z_=>z_=xpC k_1):=by
  have⟨hI,hIe,hl,hn,hL⟩:=id k_1
  exact rn_ev (yty.enm tabM1 [mMask,mNum] 2000003) xpA_h mixed (⟨false,34,[(1,.slice bp l cp),(2,.int .i64 (n:Int)),(3,.pointer (some ⟨3,0,none⟩)),(7,.slice (some ⟨4,0,none⟩) n n)],[((wA .u32 64 kL2),g0),((wA .u64 80 kL5),g1),(a,t),((wA .u8 64 L),(29,(0,0))),((madeCells (#[.int .u8 0]) (n*1)),(5,(0,0)))]⟩) none [] [(2,(0≤(n:Int)∧(n:Int)=(n:Int)∧1*n≤281474976710656∧n≤9223372036854775807))] 1 (fun j M=>by kernel_rfl) (A1 ⟨by omega,rfl,by omega,by omega⟩ A0) (by
    delta xpC
    rw[made_wA]
    try kernel_rfl)
abbrev xpD (_:xpA_c g0 g1 t a bp l cp n L I):FS:=⟨false,34,[(1,.slice bp l cp),(2,.int .i64 (n:Int)),(3,.pointer (some ⟨3,0,none⟩)),(7,.slice (some ⟨4,0,none⟩) n n),(8,.slice none 0 0)],[((wA .u32 64 kL2),g0),((wA .u64 80 kL5),g1),(a,t),((wA .u8 64 L),(29,(0,0))),((wA .u8 n []),(5,(0,0)))]⟩
theorem xp2:xpA_R [1,1,0] (xpC k_1) .normal (fun z_=>z_=xpD k_1):=rn_ev (yty.enm tabM1 [mMask,mNum] 2000003) xpA_h mixed _ none [] [] 1 (fun j M=>by kernel_rfl) A0 rfl
abbrev xpE (_:xpA_c g0 g1 t a bp l cp n L I):FS:=⟨false,34,[(1,.slice bp l cp),(2,.int .i64 (n:Int)),(3,.pointer (some ⟨3,0,none⟩)),(7,.slice (some ⟨4,0,none⟩) n n),(8,.slice none 0 0),(9,.int .i64 0),(10,.int .u8 1)],[((wA .u32 64 kL2),g0),((wA .u64 80 kL5),g1),(a,t),((wA .u8 64 L),(29,(0,0))),((wA .u8 n []),(5,(0,0)))]⟩
theorem xp3:xpA_R [1,1,1,0,0] (xpD k_1) .normal (fun z_=>z_=xpE k_1):=rn_ev (yty.enm tabM1 [mMask,mNum] 2000003) xpA_h mixed _ none [] [] 2 (fun j M=>by kernel_rfl) A0 rfl
structure xpF_c (_:xpA_c g0 g1 t a bp l cp n L I) (i p:Nat) (X Z:List Int):Prop where
  hp:p=min (32*i) n
  hX:X=okN (wA .u8 64 L) I p
  hZ:Z=tK (wA .u8 64 L) I i
  hi:1≤i
variable {i p:Nat} {X Z:List Int} {k_2:xpF_c k_1 i p X Z}
abbrev xpF (_:xpF_c k_1 i p X Z):FS:=⟨false,34,[(1,.slice bp l cp),(2,.int .i64 (n:Int)),(3,.pointer (some ⟨3,0,none⟩)),(7,.slice (some ⟨4,0,none⟩) n n),(8,.slice (some ⟨5,0,none⟩) 32 32),(9,.int .i64 (p:Int)),(10,.int .u8 (((i+1)%256:Nat):Int))],[((wA .u32 64 kL2),g0),((wA .u64 80 kL5),g1),(a,t),((wA .u8 64 L),(29,(0,0))),((wA .u8 n X),(5,(0,0))),((wA .u8 32 Z),(25,(0,0)))]⟩
structure xpG_c (_:xpA_c g0 g1 t a bp l cp n L I) (i p:Nat) (X Z:List Int):Prop where
  hp:p=32*i∧p<n
  hX:X=okN (wA .u8 64 L) I p
  hZ:Z=tK (wA .u8 64 L) I i
  hi:1≤i
variable {k_3:xpG_c k_1 i p X Z}
abbrev xpG (_:xpG_c k_1 i p X Z):FS:=⟨false,34,[(1,.slice bp l cp),(2,.int .i64 (n:Int)),(3,.pointer (some ⟨3,0,none⟩)),(7,.slice (some ⟨4,0,none⟩) n n),(8,.slice (some ⟨5,0,none⟩) 32 32),(9,.int .i64 (p:Int)),(10,.int .u8 (((i+1)%256:Nat):Int))],[((wA .u32 64 kL2),g0),((wA .u64 80 kL5),g1),(a,t),((wA .u8 64 L),(29,(0,0))),((wA .u8 n X),(5,(0,0))),((wA .u8 32 Z),(25,(0,0)))]⟩
structure xpH_c (_:xpA_c g0 g1 t a bp l cp n L I) (X:List Int):Prop where
  hX:X=okN (wA .u8 64 L) I n
variable {k_4:xpH_c k_1 X}
abbrev xpH (_:xpH_c k_1 X):FS:=⟨false,34,[(7,.slice (some ⟨4,0,none⟩) n n)],[((wA .u32 64 kL2),g0),((wA .u64 80 kL5),g1),(a,t),((wA .u8 64 L),(29,(0,0))),((wA .u8 n X),(5,(0,0)))]⟩
theorem xp4 (h0n:0<n):xpA_R [1,1,1,0,1,0,0,0] (xpE k_1) .normal (fun z_=>z_=xpE k_1):=by
  have⟨hI,hIe,hl,hn,hL⟩:=id k_1
  exact rn_ev (yty.enm tabM1 [mMask,mNum] 2000003) xpA_h mixed _ none [some (.bool true)] [(5,(decide (0<(n:Int)))=true)] 0 (fun j M=>by kernel_rfl) (A1 (decide_eq_true (by omega)) A0) rfl
theorem xp5 (hlt:p<n):xpA_R [1,1,1,0,1,0,0,0] (xpF k_2) .normal (fun z_=>∃(k_3:xpG_c k_1 i p X Z),z_=xpG k_3):=by
  have⟨hI,hIe,hl,hn,hL⟩:=id k_1
  have⟨hp,hX,hZ,hi⟩:=id k_2
  exact rn_ev (yty.enm tabM1 [mMask,mNum] 2000003) xpA_h mixed _ none [some (.bool true)] [(5,(decide ((p:Int)<(n:Int)))=true)] 0 (fun j M=>by kernel_rfl) (A1 (decide_eq_true (by omega)) A0) ⟨⟨by omega,hX,hZ,hi⟩,rfl⟩
theorem xp6 (hge:¬ p<n):xpA_R [1,1,1,0,1,0,0,0] (xpF k_2) (.exit 0) (fun z_=>∃(k_4:xpH_c k_1 X),z_=xpH k_4):=by
  have⟨hI,hIe,hl,hn,hL⟩:=id k_1
  have⟨hp,hX,hZ,hi⟩:=id k_2
  exact rn_ev (yty.enm tabM1 [mMask,mNum] 2000003) xpA_h mixed _ (some (false,5)) [some (.bool false)] [(5,(decide ((p:Int)<(n:Int)))=false)] 0 (fun j M=>by kernel_rfl) (A1 (decide_eq_false (by omega)) A0) ⟨⟨by rw[hX,show p=n by omega]⟩,rfl⟩
theorem xp6z (hz0:¬ 0<n):xpA_R [1,1,1,0,1,0,0,0] (xpE k_1) (.exit 0) (fun z_=>∃(k_4:xpH_c k_1 ([])),z_=xpH k_4):=by
  have⟨hI,hIe,hl,hn,hL⟩:=id k_1
  exact rn_ev (yty.enm tabM1 [mMask,mNum] 2000003) xpA_h mixed _ none [some (.bool false)] [(5,(decide (0<(n:Int)))=false)] 0 (fun j M=>by kernel_rfl) (A1 (decide_eq_false (by omega)) A0) ⟨⟨by rw[show n=0 by omega];rfl⟩,rfl⟩
structure xp7a_c (_:xpA_c g0 g1 t a bp l cp n L I) (S:List Int):Prop where
  hS:S=tK (wA .u8 64 L) I (0+1)
variable {S:List Int} {k_5:xp7a_c k_1 S}
abbrev xp7a (_:xp7a_c k_1 S):FS:=⟨false,34,[(1,.slice bp l cp),(2,.int .i64 (n:Int)),(3,.pointer (some ⟨3,0,none⟩)),(7,.slice (some ⟨4,0,none⟩) n n),(8,.slice none 0 0),(9,.int .i64 0),(10,.int .u8 1),(11,.pointer (some ⟨6,0,none⟩))],[((wA .u32 64 kL2),g0),((wA .u64 80 kL5),g1),(a,t),((wA .u8 64 L),(29,(0,0))),((wA .u8 n []),(5,(0,0))),((wA .u8 (0+l+1) (([]:List Int) ++ I ++ [1])),(5,(0,0))),((wA .u8 32 S),(25,(0,0)))]⟩
def xp7b_h (i:Nat):Hn:=if i=6 then⟨0,[(0,true),(1,true),(2,true),(3,true)],[(7,false)],[4,5],[(6,11)]⟩ else xpA_h i
theorem xp7b (h0n:0<n):xpA_R [1,1,1,0,1,0,0,1,0,0,0] (xpE k_1) .normal (fun z_=>∃(k_5:xp7a_c k_1 (tK (wA .u8 64 L) I (0+1))),z_=xp7a k_5):=by
  have⟨hI,hIe,hl,hn,hL⟩:=id k_1
  have eI:bytesOf [((wA .u32 64 kL2),g0),((wA .u64 80 kL5),g1),(a,t),((wA .u8 64 L),(29,(0,0))),((wA .u8 n []),(5,(0,0)))] bp l=I:=(BytesOk.app (x:= [_,_]) hI).2.trans hIe
  have hIl:I.length=l:=by rw[← hIe];exact hI.len
  have hIb:∀ y ∈ bytesOf [((wA .u32 64 kL2),g0),((wA .u64 80 kL5),g1),(a,t),((wA .u8 64 L),(29,(0,0))),((wA .u8 n []),(5,(0,0)))] bp l,0≤y∧y<256:=(BytesOk.app (x:= [_,_]) hI).1.bt
  exact rn_ev (yty.enm tabM1 [mMask,mNum] 2000003) xp7b_h mixed (⟨false,34,[(1,.slice bp l cp),(2,.int .i64 (n:Int)),(3,.pointer (some ⟨3,0,none⟩)),(7,.slice (some ⟨4,0,none⟩) n n),(8,.slice none 0 0),(9,.int .i64 0),(10,.int .u8 1),(11,.pointer (some ⟨6,0,none⟩))],[((wA .u32 64 kL2),g0),((wA .u64 80 kL5),g1),(a,t),((wA .u8 64 L),(29,(0,0))),((wA .u8 n []),(5,(0,0))),((wA .u8 (0+l+1) (([]:List Int) ++ (bytesOf [((wA .u32 64 kL2),g0),((wA .u64 80 kL5),g1),(a,t),((wA .u8 64 L),(29,(0,0))),((wA .u8 n []),(5,(0,0)))] bp l) ++ [1])),(5,(0,0))),((wA .u8 32 (hm2 (wA .u8 64 L) (bL (wA .u8 (0+l+1) (([]:List Int) ++ (bytesOf [((wA .u32 64 kL2),g0),((wA .u64 80 kL5),g1),(a,t),((wA .u8 64 L),(29,(0,0))),((wA .u8 n []),(5,(0,0)))] bp l) ++ [1])) 0 (0+l+1)))),(25,(0,0)))]⟩) none [] [(8,(BytesOk [((wA .u32 64 kL2),g0),((wA .u64 80 kL5),g1),(a,t),((wA .u8 64 L),(29,(0,0))),((wA .u8 n []),(5,(0,0)))] none 0 0∧BytesOk [((wA .u32 64 kL2),g0),((wA .u64 80 kL5),g1),(a,t),((wA .u8 64 L),(29,(0,0))),((wA .u8 n []),(5,(0,0)))] bp l cp∧0≤1000000000∧l≤1000000000)),(0,((wA .u32 64 kL2)=wA .u32 64 kL2∧(wA .u64 80 kL5)=wA .u64 80 kL5∧BytesOk [((wA .u32 64 kL2),g0),((wA .u64 80 kL5),g1),(a,t),((wA .u8 64 L),(29,(0,0))),((wA .u8 n []),(5,(0,0))),((wA .u8 (0+l+1) (([]:List Int) ++ (bytesOf [((wA .u32 64 kL2),g0),((wA .u64 80 kL5),g1),(a,t),((wA .u8 64 L),(29,(0,0))),((wA .u8 n []),(5,(0,0)))] bp l) ++ [1])),(5,(0,0)))] (some ⟨5,0,none⟩) (0+l+1) (0+l+1)∧(0+l+1)≤100000000∧bytesAt (wA .u8 64 L) 0 64∧(wA .u8 64 L).size=64∧(wA .u8 64 L).all (fun v=>v.oneCell')=true)),(0,((wA .u8 32 (hm2 (wA .u8 64 L) (bL (wA .u8 (0+l+1) (([]:List Int) ++ (bytesOf [((wA .u32 64 kL2),g0),((wA .u64 80 kL5),g1),(a,t),((wA .u8 64 L),(29,(0,0))),((wA .u8 n []),(5,(0,0)))] bp l) ++ [1])) 0 (0+l+1)))).all (fun v=>v.oneCell')=true))] 0 (fun j M=>by kernel_rfl) (A1 ⟨.inl ⟨rfl,rfl,rfl⟩,(BytesOk.app (x:= [_,_]) hI).1,by omega,by omega⟩ (A1 ⟨rfl,rfl,.inr ⟨5,0,_,_,rfl,rfl,bytes_wA (row_bt (fun y hy=>by simp at hy) hIb (by omega)),by rw[wA_size];omega,by omega⟩,by omega,bytes_wA hL,wA_size _ _ _,wA_one _ _ _⟩ (A1 (wA_one _ _ _) A0))) ⟨⟨rfl⟩,(by
    delta xp7a
    rw[eI,bL_wA (row_len (Z:= []) (z:=0) rfl hIl)]
    try kernel_rfl)⟩
abbrev xp7c (_:xp7a_c k_1 S):FS:=⟨false,34,[(1,.slice bp l cp),(2,.int .i64 (n:Int)),(3,.pointer (some ⟨3,0,none⟩)),(7,.slice (some ⟨4,0,none⟩) n n),(8,.slice none 0 0),(9,.int .i64 (((Nat.min 32 n):Nat):Int)),(10,.int .u8 1),(11,.pointer (some ⟨6,0,none⟩))],[((wA .u32 64 kL2),g0),((wA .u64 80 kL5),g1),(a,t),((wA .u8 64 L),(29,(0,0))),((wA .u8 n (([]:List Int) ++ S.take (Nat.min 32 n))),(5,(0,0))),((wA .u8 (0+l+1) (([]:List Int) ++ I ++ [1])),(5,(0,0))),((wA .u8 32 S),(25,(0,0)))]⟩
theorem xp7d (h0n:0<n):xpA_R [1,1,1,0,1,0,0,1,0,0,1,0] (xp7a k_5) .normal (fun z_=>z_=xp7c k_5):=by
  have⟨hI,hIe,hl,hn,hL⟩:=id k_1
  have⟨hS⟩:=id k_5
  have hq_:(Nat.min 32 n)≤32:=Nat.min_le_left _ _
  exact rn_ev (yty.enm tabM1 [mMask,mNum] 2000003) xpA_h mixed _ none [some (.agg (wA .u8 n (([]:List Int) ++ S.take (Nat.min 32 n)))),some (.int .i64 ((Nat.min 32 n:Nat):Int))] [(8,((((0:Int)≤0)∧True)∧0≤n∧n≤n)),(0,(((if n=0 then 0 else 0+0*1)+Nat.min 32 n≤(wA .u8 n []).size∧0+Nat.min 32 n≤(wA .u8 32 S).size)∧((wA .u8 32 S).extract 0 (0+Nat.min 32 n)).all (fun v=>v.oneCell')=true∧Calm.splice (wA .u8 n []) (if n=0 then 0 else 0+0*1) ((wA .u8 32 S).extract 0 (0+Nat.min 32 n))=(wA .u8 n (([]:List Int) ++ S.take (Nat.min 32 n))))),(1,(IntKind.i64.wrap (0+((Nat.min 32 n:Nat):Int)))=((Nat.min 32 n:Nat):Int))] 1 (fun j M=>by kernel_rfl) (A1 ⟨(tt1 (by omega)),by omega,by omega⟩ (A1 (cp_sum (p:=0) rfl (by rw[hS];exact tK_len _ _ _) rfl (by omega) (by split<;>omega)) (A1 (wi64 (by omega)) A0))) rfl
abbrev xp8a (_:xpF_c k_1 i p X Z):FS:=⟨false,34,[(1,.slice bp l cp),(2,.int .i64 (n:Int)),(3,.pointer (some ⟨3,0,none⟩)),(7,.slice (some ⟨4,0,none⟩) n n),(8,.slice (some ⟨5,0,none⟩) 32 32),(9,.int .i64 (p:Int)),(10,.int .u8 (((i)%256:Nat):Int))],[((wA .u32 64 kL2),g0),((wA .u64 80 kL5),g1),(a,t),((wA .u8 64 L),(29,(0,0))),((wA .u8 n X),(5,(0,0))),((wA .u8 32 Z),(25,(0,0)))]⟩
structure xp8b_c (_:xpF_c k_1 i p X Z) (rr:Array Value):Prop where
variable {rr:Array Value} {k_6:xp8b_c k_2 rr}
abbrev xp8b (_:xp8b_c k_2 rr):FS:=⟨false,34,[(1,.slice bp l cp),(2,.int .i64 (n:Int)),(3,.pointer (some ⟨3,0,none⟩)),(7,.slice (some ⟨4,0,none⟩) n n),(8,.slice (some ⟨5,0,none⟩) 32 32),(9,.int .i64 (p:Int)),(10,.int .u8 (((i)%256:Nat):Int))],[((wA .u32 64 kL2),g0),((wA .u64 80 kL5),g1),(a,t),((wA .u8 64 L),(29,(0,0))),((wA .u8 n X),(5,(0,0))),((wA .u8 32 Z),(25,(0,0))),(rr,(5,(0,0)))]⟩
theorem xp8c:xpA_R [1,1,1,0,1,0,0,1,0,0,1,1] (xp7c k_5) .normal (fun z_=>∃(k_2:xpF_c k_1 1 (Nat.min 32 n) (([]:List Int) ++ S.take (Nat.min 32 n)) S),z_=xp8a k_2):=by
  have⟨hI,hIe,hl,hn,hL⟩:=id k_1
  have⟨hS⟩:=id k_5
  exact rn_evM (yty.enm tabM1 [mMask,mNum] 2000003) xpA_h mixed (fun M=>⟨false,34,[(1,ov 5 6 M (.slice bp l cp)),(2,.int .i64 (n:Int)),(3,.pointer (some ⟨3,0,none⟩)),(7,.slice (some ⟨4,0,none⟩) n n),(8,.slice (some ⟨5,0,none⟩) 32 32),(9,.int .i64 (((Nat.min 32 n):Nat):Int)),(10,.int .u8 1)],[((wA .u32 64 kL2),g0),((wA .u64 80 kL5),g1),(a,t),((wA .u8 64 L),(29,(0,0))),((wA .u8 n (([]:List Int) ++ S.take (Nat.min 32 n))),(5,(0,0))),((wA .u8 32 S),(25,(0,0)))]⟩) (some (true,5)) [] [] 2 (fun j M=>by kernel_rfl) A0 fun M=>⟨⟨by show Nat.min 32 n=min (32*1) n;rfl,by have e_:=okN_add (wA .u8 64 L) I 0 (Nat.min 32 n) (Nat.min_le_left _ _);rw[Nat.mul_zero,Nat.zero_add] at e_;rw[hS];exact e_.symm,hS,by omega⟩,(by
    delta xp8a
    rw[ov_b hI (Nat.le_of_ble_eq_true rfl) (Nat.le_of_ble_eq_true rfl)]
    try kernel_rfl)⟩
structure xp9a_c (_:xpG_c k_1 i p X Z) (S:List Int):Prop where
  hS:S=tK (wA .u8 64 L) I (i+1)
variable {k_7:xp9a_c k_3 S}
abbrev xp9a (_:xp9a_c k_3 S):FS:=⟨false,34,[(1,.slice bp l cp),(2,.int .i64 (n:Int)),(3,.pointer (some ⟨3,0,none⟩)),(7,.slice (some ⟨4,0,none⟩) n n),(8,.slice (some ⟨5,0,none⟩) 32 32),(9,.int .i64 (p:Int)),(10,.int .u8 (((i+1)%256:Nat):Int)),(11,.pointer (some ⟨7,0,none⟩))],[((wA .u32 64 kL2),g0),((wA .u64 80 kL5),g1),(a,t),((wA .u8 64 L),(29,(0,0))),((wA .u8 n X),(5,(0,0))),((wA .u8 32 Z),(25,(0,0))),((wA .u8 (32+l+1) (Z ++ I ++ [(((i+1)%256:Nat):Int)])),(5,(0,0))),((wA .u8 32 S),(25,(0,0)))]⟩
def xp9b_h (i:Nat):Hn:=if i=6 then⟨0,[(0,true),(1,true),(2,true),(3,true)],[(7,false)],[4,5],[(6,11)]⟩ else xpA_h i
theorem xp9b:xpA_R [1,1,1,0,1,0,0,1,0,0,0] (xpG k_3) .normal (fun z_=>∃(k_7:xp9a_c k_3 (tK (wA .u8 64 L) I (i+1))),z_=xp9a k_7):=by
  have⟨hI,hIe,hl,hn,hL⟩:=id k_1
  have⟨hp,hX,hZ,hi⟩:=id k_3
  have eI:bytesOf [((wA .u32 64 kL2),g0),((wA .u64 80 kL5),g1),(a,t),((wA .u8 64 L),(29,(0,0))),((wA .u8 n X),(5,(0,0))),((wA .u8 32 Z),(25,(0,0)))] bp l=I:=(BytesOk.app (x:= [_,_,_]) hI).2.trans hIe
  have hIl:I.length=l:=by rw[← hIe];exact hI.len
  have hIb:∀ y ∈ bytesOf [((wA .u32 64 kL2),g0),((wA .u64 80 kL5),g1),(a,t),((wA .u8 64 L),(29,(0,0))),((wA .u8 n X),(5,(0,0))),((wA .u8 32 Z),(25,(0,0)))] bp l,0≤y∧y<256:=(BytesOk.app (x:= [_,_,_]) hI).1.bt
  have hZl:Z.length=32:=by obtain⟨w,rfl⟩:∃ w,i=w+1:=⟨i - 1,by omega⟩;rw[hZ];exact tK_len _ _ _
  have hZb:∀ y ∈ Z,0≤y∧y<256:=by obtain⟨w,rfl⟩:∃ w,i=w+1:=⟨i - 1,by omega⟩;rw[hZ];exact hm2_bt _ _
  exact rn_ev (yty.enm tabM1 [mMask,mNum] 2000003) xp9b_h mixed (⟨false,34,[(1,.slice bp l cp),(2,.int .i64 (n:Int)),(3,.pointer (some ⟨3,0,none⟩)),(7,.slice (some ⟨4,0,none⟩) n n),(8,.slice (some ⟨5,0,none⟩) 32 32),(9,.int .i64 (p:Int)),(10,.int .u8 (((i+1)%256:Nat):Int)),(11,.pointer (some ⟨7,0,none⟩))],[((wA .u32 64 kL2),g0),((wA .u64 80 kL5),g1),(a,t),((wA .u8 64 L),(29,(0,0))),((wA .u8 n X),(5,(0,0))),((wA .u8 32 Z),(25,(0,0))),((wA .u8 (32+l+1) ((bL (wA .u8 32 Z) 0 32) ++ (bytesOf [((wA .u32 64 kL2),g0),((wA .u64 80 kL5),g1),(a,t),((wA .u8 64 L),(29,(0,0))),((wA .u8 n X),(5,(0,0))),((wA .u8 32 Z),(25,(0,0)))] bp l) ++ [(((i+1)%256:Nat):Int)])),(5,(0,0))),((wA .u8 32 (hm2 (wA .u8 64 L) (bL (wA .u8 (32+l+1) ((bL (wA .u8 32 Z) 0 32) ++ (bytesOf [((wA .u32 64 kL2),g0),((wA .u64 80 kL5),g1),(a,t),((wA .u8 64 L),(29,(0,0))),((wA .u8 n X),(5,(0,0))),((wA .u8 32 Z),(25,(0,0)))] bp l) ++ [(((i+1)%256:Nat):Int)])) 0 (32+l+1)))),(25,(0,0)))]⟩) none [] [(8,(BytesOk [((wA .u32 64 kL2),g0),((wA .u64 80 kL5),g1),(a,t),((wA .u8 64 L),(29,(0,0))),((wA .u8 n X),(5,(0,0))),((wA .u8 32 Z),(25,(0,0)))] (some ⟨5,0,none⟩) 32 32∧BytesOk [((wA .u32 64 kL2),g0),((wA .u64 80 kL5),g1),(a,t),((wA .u8 64 L),(29,(0,0))),((wA .u8 n X),(5,(0,0))),((wA .u8 32 Z),(25,(0,0)))] bp l cp∧32≤1000000000∧l≤1000000000)),(0,((wA .u32 64 kL2)=wA .u32 64 kL2∧(wA .u64 80 kL5)=wA .u64 80 kL5∧BytesOk [((wA .u32 64 kL2),g0),((wA .u64 80 kL5),g1),(a,t),((wA .u8 64 L),(29,(0,0))),((wA .u8 n X),(5,(0,0))),((wA .u8 32 Z),(25,(0,0))),((wA .u8 (32+l+1) ((bL (wA .u8 32 Z) 0 32) ++ (bytesOf [((wA .u32 64 kL2),g0),((wA .u64 80 kL5),g1),(a,t),((wA .u8 64 L),(29,(0,0))),((wA .u8 n X),(5,(0,0))),((wA .u8 32 Z),(25,(0,0)))] bp l) ++ [(((i+1)%256:Nat):Int)])),(5,(0,0)))] (some ⟨6,0,none⟩) (32+l+1) (32+l+1)∧(32+l+1)≤100000000∧bytesAt (wA .u8 64 L) 0 64∧(wA .u8 64 L).size=64∧(wA .u8 64 L).all (fun v=>v.oneCell')=true)),(0,((wA .u8 32 (hm2 (wA .u8 64 L) (bL (wA .u8 (32+l+1) ((bL (wA .u8 32 Z) 0 32) ++ (bytesOf [((wA .u32 64 kL2),g0),((wA .u64 80 kL5),g1),(a,t),((wA .u8 64 L),(29,(0,0))),((wA .u8 n X),(5,(0,0))),((wA .u8 32 Z),(25,(0,0)))] bp l) ++ [(((i+1)%256:Nat):Int)])) 0 (32+l+1)))).all (fun v=>v.oneCell')=true))] 0 (fun j M=>by kernel_rfl) (A1 ⟨.inr ⟨5,0,_,_,rfl,rfl,bytes_wA hZb,by rw[wA_size];decide,by decide⟩,(BytesOk.app (x:= [_,_,_]) hI).1,by omega,by omega⟩ (A1 ⟨rfl,rfl,.inr ⟨6,0,_,_,rfl,rfl,bytes_wA (row_bt (bL_bt (bytes_wA hZb)) hIb (by omega)),by rw[wA_size];omega,by omega⟩,by omega,bytes_wA hL,wA_size _ _ _,wA_one _ _ _⟩ (A1 (wA_one _ _ _) A0))) ⟨⟨rfl⟩,(by
    delta xp9a
    rw[eI,bL_wA hZl,bL_wA (row_len hZl hIl)]
    rw[hZ]
    try kernel_rfl)⟩
abbrev xp9c (_:xp9a_c k_3 S):FS:=⟨false,34,[(1,.slice bp l cp),(2,.int .i64 (n:Int)),(3,.pointer (some ⟨3,0,none⟩)),(7,.slice (some ⟨4,0,none⟩) n n),(8,.slice (some ⟨5,0,none⟩) 32 32),(9,.int .i64 (((p+(Nat.min 32 (n - p))):Nat):Int)),(10,.int .u8 (((i+1)%256:Nat):Int)),(11,.pointer (some ⟨7,0,none⟩))],[((wA .u32 64 kL2),g0),((wA .u64 80 kL5),g1),(a,t),((wA .u8 64 L),(29,(0,0))),((wA .u8 n (X ++ S.take (Nat.min 32 (n - p)))),(5,(0,0))),((wA .u8 32 Z),(25,(0,0))),((wA .u8 (32+l+1) (Z ++ I ++ [(((i+1)%256:Nat):Int)])),(5,(0,0))),((wA .u8 32 S),(25,(0,0)))]⟩
def xp9d_h (i:Nat):Hn:=if i=7 then⟨0,[(0,true),(1,true),(2,true),(4,true),(3,true),(5,false),(6,true),(7,false)],[],[0,1,2,3,5,6,7],[]⟩ else xpA_h i
theorem xp9d:xpA_R [1,1,1,0,1,0,0,1,0,0,1,0] (xp9a k_7) .normal (fun z_=>z_=xp9c k_7):=by
  have⟨hI,hIe,hl,hn,hL⟩:=id k_1
  have⟨hp,hX,hZ,hi⟩:=id k_3
  have⟨hS⟩:=id k_7
  have hq_:(Nat.min 32 (n - p))≤32:=Nat.min_le_left _ _
  exact rn_ev (yty.enm tabM1 [mMask,mNum] 2000003) xp9d_h mixed _ none [some (.agg (wA .u8 n (X ++ S.take (Nat.min 32 (n - p))))),some (.int .i64 ((p+(Nat.min 32 (n - p)):Nat):Int))] [(8,(((0≤(p:Int))∧True)∧p≤n∧n≤n)),(0,(((if n=p then 0 else 0+p*1)+Nat.min 32 (n - p)≤(wA .u8 n X).size∧0+Nat.min 32 (n - p)≤(wA .u8 32 S).size)∧((wA .u8 32 S).extract 0 (0+Nat.min 32 (n - p))).all (fun v=>v.oneCell')=true∧Calm.splice (wA .u8 n X) (if n=p then 0 else 0+p*1) ((wA .u8 32 S).extract 0 (0+Nat.min 32 (n - p)))=(wA .u8 n (X ++ S.take (Nat.min 32 (n - p)))))),(1,(IntKind.i64.wrap ((p:Int)+((Nat.min 32 (n - p):Nat):Int)))=((p+(Nat.min 32 (n - p)):Nat):Int))] 1 (fun j M=>by kernel_rfl) (A1 ⟨(tt1 (by omega)),by omega,by omega⟩ (A1 (cp_sum (p:=p) (by rw[hX];exact okN_len _ _ _) (by rw[hS];exact tK_len _ _ _) rfl (by omega) (by split<;>omega)) (A1 (wi64 (by omega)) A0))) rfl
theorem xp9z:xpA_R [1,1,1,0,1,0,0,1,0,0,1,1] (xp9c k_7) .normal (fun z_=>∃(k_2:xpF_c k_1 (i+1) (p+(Nat.min 32 (n - p))) (X ++ S.take (Nat.min 32 (n - p))) S) (k_6:xp8b_c k_2 (wA .u8 (32+l+1) (Z ++ I ++ [(((i+1)%256:Nat):Int)]))),z_=xp8b k_6):=by
  have⟨hI,hIe,hl,hn,hL⟩:=id k_1
  have⟨hp,hX,hZ,hi⟩:=id k_3
  have⟨hS⟩:=id k_7
  exact rn_evM (yty.enm tabM1 [mMask,mNum] 2000003) xpA_h mixed (fun M=>⟨false,34,[(1,ov 5 7 M (.slice bp l cp)),(2,.int .i64 (n:Int)),(3,.pointer (some ⟨3,0,none⟩)),(7,.slice (some ⟨4,0,none⟩) n n),(8,.slice (some ⟨5,0,none⟩) 32 32),(9,.int .i64 (((p+(Nat.min 32 (n - p))):Nat):Int)),(10,.int .u8 (((i+1)%256:Nat):Int))],[((wA .u32 64 kL2),g0),((wA .u64 80 kL5),g1),(a,t),((wA .u8 64 L),(29,(0,0))),((wA .u8 n (X ++ S.take (Nat.min 32 (n - p)))),(5,(0,0))),((wA .u8 32 S),(25,(0,0))),((wA .u8 (32+l+1) (Z ++ I ++ [(((i+1)%256:Nat):Int)])),(5,(0,0)))]⟩) (some (true,5)) [] [] 2 (fun j M=>by kernel_rfl) A0 fun M=>⟨⟨by have e_:Nat.min 32 (n - p)=min 32 (n - p):=rfl;rw[e_];omega,by rw[hX,hS,hp.1];exact(okN_add _ _ _ _ (Nat.min_le_left _ _)).symm,hS,by omega⟩,⟨⟩,(by
    delta xp8b
    rw[ov_b hI (Nat.le_of_ble_eq_true rfl) (Nat.le_of_ble_eq_true rfl)]
    try kernel_rfl)⟩
theorem xpAa:xpA_R [1,1,1,0,1,0,0,1,1] (xp8a k_2) .normal (fun z_=>z_=xpF k_2):=by
  have⟨hI,hIe,hl,hn,hL⟩:=id k_1
  have⟨hp,hX,hZ,hi⟩:=id k_2
  exact rn_ev (yty.enm tabM1 [mMask,mNum] 2000003) xpA_h mixed _ none [some (.int .u8 (((i+1)%256:Nat):Int))] [(3,(IntKind.u8.wrap ((((i)%256:Nat):Int)+1))=(((i+1)%256:Nat):Int))] 1 (fun j M=>by kernel_rfl) (A1 (by rw[IntKind.wrap_u8];show _=_;omega) A0) rfl
theorem xpAb:xpA_R [1,1,1,0,1,0,0,1,1] (xp8b k_6) .normal (fun z_=>z_=xpF k_2):=by
  have⟨hI,hIe,hl,hn,hL⟩:=id k_1
  have⟨hp,hX,hZ,hi⟩:=id k_2
  exact rn_evM (yty.enm tabM1 [mMask,mNum] 2000003) xpA_h mixed (fun M=>⟨false,34,[(1,dn 6 M (.slice bp l cp)),(2,.int .i64 (n:Int)),(3,.pointer (some ⟨3,0,none⟩)),(7,.slice (some ⟨4,0,none⟩) n n),(8,.slice (some ⟨5,0,none⟩) 32 32),(9,.int .i64 (p:Int)),(10,.int .u8 (((i+1)%256:Nat):Int))],[((wA .u32 64 kL2),g0),((wA .u64 80 kL5),g1),(a,t),((wA .u8 64 L),(29,(0,0))),((wA .u8 n X),(5,(0,0))),((wA .u8 32 Z),(25,(0,0)))]⟩) (some (false,6)) [some (.int .u8 (((i+1)%256:Nat):Int))] [(3,(IntKind.u8.wrap ((((i)%256:Nat):Int)+1))=(((i+1)%256:Nat):Int))] 1 (fun j M=>by kernel_rfl) (A1 (by rw[IntKind.wrap_u8];show _=_;omega) A0) fun M=>(by
    delta xpF
    rw[dn_b hI (Nat.le_of_ble_eq_true rfl)]
    try kernel_rfl)
theorem xpAe (h0n:0<n):xpA_R [1,1,1,0,1,0,0,1,0,0,1] (xp7a k_5) .normal (fun z_=>∃(k_2:xpF_c k_1 1 (Nat.min 32 n) (([]:List Int) ++ S.take (Nat.min 32 n)) S),z_=xp8a k_2):=by
  refine rn_seq (w:= [1,1,1,0,1,0,0,1,0,0,1]) (by kernel_rfl) (xp7d h0n) ?_
  rintro _ rfl
  exact xp8c
theorem xpAd (h0n:0<n):xpA_R [1,1,1,0,1,0,0,1,0,0] (xpE k_1) .normal (fun z_=>∃(k_2:xpF_c k_1 1 (Nat.min 32 n) (([]:List Int) ++ (tK (wA .u8 64 L) I (0+1)).take (Nat.min 32 n)) (tK (wA .u8 64 L) I (0+1))),z_=xp8a k_2):=by
  refine rn_seq (w:= [1,1,1,0,1,0,0,1,0,0]) (by kernel_rfl) (xp7b h0n) ?_
  rintro _ ⟨k_5,rfl⟩
  exact(xpAe h0n)
theorem xpAc (h0n:0<n):xpA_R [1,1,1,0,1,0,0,1,0] (xpE k_1) .normal (fun z_=>∃(k_2:xpF_c k_1 1 (Nat.min 32 n) (([]:List Int) ++ (tK (wA .u8 64 L) I (0+1)).take (Nat.min 32 n)) (tK (wA .u8 64 L) I (0+1))),z_=xp8a k_2):=rn_block (k:=1) (w:= [1,1,1,0,1,0,0,1,0]) (by kernel_rfl) (xpAd h0n)
theorem xpAh:xpA_R [1,1,1,0,1,0,0,1,0,0,1] (xp9a k_7) .normal (fun z_=>∃(k_2:xpF_c k_1 (i+1) (p+(Nat.min 32 (n - p))) (X ++ S.take (Nat.min 32 (n - p))) S) (k_6:xp8b_c k_2 (wA .u8 (32+l+1) (Z ++ I ++ [(((i+1)%256:Nat):Int)]))),z_=xp8b k_6):=by
  refine rn_seq (w:= [1,1,1,0,1,0,0,1,0,0,1]) (by kernel_rfl) xp9d ?_
  rintro _ rfl
  exact xp9z
theorem xpAg:xpA_R [1,1,1,0,1,0,0,1,0,0] (xpG k_3) .normal (fun z_=>∃(k_2:xpF_c k_1 (i+1) (p+(Nat.min 32 (n - p))) (X ++ (tK (wA .u8 64 L) I (i+1)).take (Nat.min 32 (n - p))) (tK (wA .u8 64 L) I (i+1))) (k_6:xp8b_c k_2 (wA .u8 (32+l+1) (Z ++ I ++ [(((i+1)%256:Nat):Int)]))),z_=xp8b k_6):=by
  refine rn_seq (w:= [1,1,1,0,1,0,0,1,0,0]) (by kernel_rfl) xp9b ?_
  rintro _ ⟨k_7,rfl⟩
  exact xpAh
theorem xpAf:xpA_R [1,1,1,0,1,0,0,1,0] (xpG k_3) .normal (fun z_=>∃(k_2:xpF_c k_1 (i+1) (p+(Nat.min 32 (n - p))) (X ++ (tK (wA .u8 64 L) I (i+1)).take (Nat.min 32 (n - p))) (tK (wA .u8 64 L) I (i+1))) (k_6:xp8b_c k_2 (wA .u8 (32+l+1) (Z ++ I ++ [(((i+1)%256:Nat):Int)]))),z_=xp8b k_6):=rn_block (k:=1) (w:= [1,1,1,0,1,0,0,1,0]) (by kernel_rfl) xpAg
theorem xpAj (h0n:0<n):xpA_R [1,1,1,0,1,0,0,1] (xpE k_1) .normal (fun z_=>∃(k_2:xpF_c k_1 1 (Nat.min 32 n) (([]:List Int) ++ (tK (wA .u8 64 L) I (0+1)).take (Nat.min 32 n)) (tK (wA .u8 64 L) I (0+1))),z_=xpF k_2):=by
  refine rn_seq (w:= [1,1,1,0,1,0,0,1]) (by kernel_rfl) (xpAc h0n) ?_
  rintro _ ⟨k_2,rfl⟩
  exact(xpAa).mono fun _ e_=>⟨k_2,e_⟩
theorem xpAi (h0n:0<n):xpA_R [1,1,1,0,1,0,0] (xpE k_1) .normal (fun z_=>∃(k_2:xpF_c k_1 1 (Nat.min 32 n) (([]:List Int) ++ (tK (wA .u8 64 L) I (0+1)).take (Nat.min 32 n)) (tK (wA .u8 64 L) I (0+1))),z_=xpF k_2):=by
  refine rn_seq (w:= [1,1,1,0,1,0,0]) (by kernel_rfl) (xp4 h0n) ?_
  rintro _ rfl
  exact(xpAj h0n)
theorem xpAl:xpA_R [1,1,1,0,1,0,0,1] (xpG k_3) .normal (fun z_=>∃(k_2:xpF_c k_1 (i+1) (p+(Nat.min 32 (n - p))) (X ++ (tK (wA .u8 64 L) I (i+1)).take (Nat.min 32 (n - p))) (tK (wA .u8 64 L) I (i+1))),z_=xpF k_2):=by
  refine rn_seq (w:= [1,1,1,0,1,0,0,1]) (by kernel_rfl) xpAf ?_
  rintro _ ⟨k_2,k_6,rfl⟩
  exact(xpAb).mono fun _ e_=>⟨k_2,e_⟩
theorem xpAk (hlt:p<n):xpA_R [1,1,1,0,1,0,0] (xpF k_2) .normal (fun z_=>∃(k_2:xpF_c k_1 (i+1) (p+(Nat.min 32 (n - p))) (X ++ (tK (wA .u8 64 L) I (i+1)).take (Nat.min 32 (n - p))) (tK (wA .u8 64 L) I (i+1))),z_=xpF k_2):=by
  refine rn_seq (w:= [1,1,1,0,1,0,0]) (by kernel_rfl) (xp5 hlt) ?_
  rintro _ ⟨k_3,rfl⟩
  exact xpAl
theorem xpBa (h0n:0<n):xpA_R [1,1,1,0,1] (xpE k_1) .normal (fun z_=>∃(i p:Nat) (X Z:List Int) (k_4:xpH_c k_1 X),z_=xpH k_4):=by
  refine rn_loop (k:=0) (w:= [1,1,1,0,1]) (by kernel_rfl) (fun n_ z_=>(n_=n - 0∧z_=xpE k_1)∨∃(i p:Nat) (X Z:List Int) (k_2:xpF_c k_1 i p X Z),n_=n - p∧z_=xpF k_2) _ (.inl ⟨rfl,rfl⟩) ?_
  rintro n_ _ (⟨hn_,rfl⟩|⟨i,p,X,Z,k_2,hn_,rfl⟩)
  · have ⟨hI, hIe, hl, hn, hL⟩ := k_1
    have hlt:0<n:=by omega
    refine(xpAi h0n).x ?_
    rintro _ ⟨k_2,e_⟩
    have⟨hp_,hX_,hZ_,hi_⟩:=id k_2
    exact .inl ⟨rfl,n - (Nat.min 32 n),by omega,.inr ⟨_,_,_,_,k_2,rfl,e_⟩⟩
  · have ⟨hI, hIe, hl, hn, hL⟩ := k_1
    have⟨hp,hX,hZ,hi⟩:=k_2
    by_cases hlt:p<n
    · refine (xpAk hlt).x ?_
      rintro _ ⟨k_2,e_⟩
      have⟨hp_,hX_,hZ_,hi_⟩:=id k_2
      exact .inl ⟨rfl,n - (p+(Nat.min 32 (n - p))),by omega,.inr ⟨_,_,_,_,k_2,rfl,e_⟩⟩
    · exact(rn_seqx (w:= [1,1,1,0,1,0,0]) (by kernel_rfl) (xp6 hlt) (by simp)).x fun _ ⟨k_4,e_⟩=> .inr ⟨rfl,⟨i,p,X,Z,k_4,e_⟩⟩
theorem xpCa (h0n:¬ 0<n):xpA_R [1,1,1,0,1] (xpE k_1) .normal (fun z_=>∃(k_4:xpH_c k_1 ([])),z_=xpH k_4):=by
  refine rn_loop (k:=0) (w:= [1,1,1,0,1]) (by kernel_rfl) (fun _ z_=>z_=xpE k_1) 0 rfl ?_
  rintro _ _ rfl
  exact(rn_seqx (w:= [1,1,1,0,1,0,0]) (by kernel_rfl) (xp6z h0n) (by simp)).x fun _ e_=> .inr ⟨rfl,e_⟩
theorem xpDa:xpA_R [1,1,1,0,1] (xpE k_1) .normal (fun z_=>∃(X:List Int) (k_4:xpH_c k_1 X),z_=xpH k_4):=by
  by_cases h0n:0<n
  · exact(xpBa h0n).mono fun _ ⟨i,p,X,Z,k_4,e_⟩=>⟨_,k_4,e_⟩
  · exact(xpCa h0n).mono fun _ ⟨k_4,e_⟩=>⟨_,k_4,e_⟩
theorem xpEa:xpA_R [1,1,1,0] (xpD k_1) .normal (fun z_=>∃(X1:List Int) (k_4:xpH_c k_1 X1),z_=xpH k_4):=by
  refine rn_seq (w:= [1,1,1,0]) (by kernel_rfl) xp3 ?_
  rintro _ rfl
  exact xpDa
abbrev xpF_ (_:xpH_c k_1 X):FS:=⟨false,34,[(6,.slice (some ⟨4,0,none⟩) n n)],[((wA .u32 64 kL2),g0),((wA .u64 80 kL5),g1),(a,t),((wA .u8 64 L),(29,(0,0))),((wA .u8 n X),(5,(0,0)))]⟩
theorem xpEb:xpA_R [1,1,1,1] (xpH k_4) .ret (fun z_=>z_=xpF_ k_4):=rn_ev (yty.enm tabM1 [mMask,mNum] 2000003) xpA_h mixed _ none [] [] 2 (fun j M=>by kernel_rfl) A0 rfl
theorem xpu':xpA_R [] (xpA k_1) .ret (fun z_=>∃(X13:List Int) (k_4:xpH_c k_1 X13),z_=xpF_ k_4):=by
  refine rn_seq (w:= []) (by kernel_rfl) xp0 ?_
  rintro _ rfl
  refine rn_seq (w:= [1]) (by kernel_rfl) xp1 ?_
  rintro _ rfl
  refine rn_seq (w:= [1,1]) (by kernel_rfl) xp2 ?_
  rintro _ rfl
  refine rn_seq (w:= [1,1,1]) (by kernel_rfl) xpEa ?_
  rintro _ ⟨X13,k_4,rfl⟩
  exact(xpEb).mono fun _ e_=>⟨X13,k_4,e_⟩
abbrev xpA_s (g0 g1 t:Tq) (a:Array Value) (bp:Option Addr) (l cp n:Nat) (L I:List Int) (j:Nat→Value):List Value:=([.agg (wA .u8 64 L),.slice bp l cp,.int .i64 (n:Int)] ++ (JU 31))
abbrev xpA_m (g0 g1 t:Tq) (a:Array Value) (bp:Option Addr) (l cp n:Nat) (L I:List Int):List Mb:= [((wA .u32 64 kL2),g0),((wA .u64 80 kL5),g1),(a,t)]
abbrev xpF__s (g0 g1 t:Tq) (a:Array Value) (bp:Option Addr) (l cp n:Nat) (L I:List Int) (X:List Int) (j:Nat→Value):List Value:=(J j 0 6 ++ ([.slice (some ⟨4,0,none⟩) n n] ++ (J j 7 27)))
abbrev xpF__m (g0 g1 t:Tq) (a:Array Value) (bp:Option Addr) (l cp n:Nat) (L I:List Int) (X:List Int):List Mb:= [((wA .u32 64 kL2),g0),((wA .u64 80 kL5),g1),(a,t),((wA .u8 64 L),(29,(0,0))),((wA .u8 n X),(5,(0,0)))]
theorem xpu (g0 g1 t:Tq) (a:Array Value) (bp:Option Addr) (l cp n:Nat) (L I:List Int) (j:Nat→Value) (hI:BytesOk [(wA .u32 64 kL2,g0),(wA .u64 80 kL5,g1),(a,t)] bp l cp) (hIe:bytesOf [(wA .u32 64 kL2,g0),(wA .u64 80 kL5,g1),(a,t)] bp l=I) (hl:l≤10000000) (hn:n≤8160) (hL:∀ x ∈ L,0≤x∧x<256)  :Runs Tryd.prog (cAt [] (bdy Tryd.f39)) ⟨xpA_s g0 g1 t a bp l cp n L I j,xpA_m g0 g1 t a bp l cp n L I,c0,ch0⟩ (fun e s=>e= .ret∧∃(X13:List Int),∃j c ch,(X13=okN (wA .u8 64 L) I n)∧s=⟨xpF__s g0 g1 t a bp l cp n L I X13 j,xpF__m g0 g1 t a bp l cp n L I X13,c,ch⟩) 2000003:=by
  refine(Rn.old (xpu' (k_1:=(⟨hI,hIe,hl,hn,hL⟩:xpA_c g0 g1 t a bp l cp n L I))) j (by kernel_rfl)).mono ?_
  rintro e s ⟨rfl,_,⟨X13,k_4,rfl⟩,j,c,ch,rfl⟩
  have⟨x_hX⟩:=k_4
  exact⟨rfl,X13,j,c,ch,x_hX,by kernel_rfl⟩
end Go.Proofs.YtcfnjcacdmkgbaaDoor

set_option linter.unusedSimpArgs false
set_option linter.unusedVariables false
/-! mac: Expand. -/
namespace Go.Proofs.YtcfnjcacdmkgbaaDoor
open Go.RowKit Go.Ev
variable {c0:Prop} {ch0:List (Option Value)}
theorem Xp_c (g0 g1 t:Tq) (a:Array Value) (bp:Option Addr) (l cp n:Nat) (L:List Int) (hI:BytesOk [(wA .u32 64 kL2,g0),(wA .u64 80 kL5,g1),(a,t)] bp l cp) (hl:l≤10000000) (hn:n≤8160) (hL:∀ x ∈ L,0≤x∧x<256):Makes Tryd.prog 39 [(wA .u32 64 kL2,g0),(wA .u64 80 kL5,g1),(a,t)] [.agg (wA .u8 64 L),.slice bp l cp,.int .i64 (n:Int)] (wA .u8 n (okN (wA .u8 64 L) (bytesOf [(wA .u32 64 kL2,g0),(wA .u64 80 kL5,g1),(a,t)] bp l) n)) 5 n n 2:=by
  refine makes_runs (fk:=2000003) Tryd.func39 (c:=bdy Tryd.f39) (by kernel_rfl) ⟨len3 _ _ _,by decide⟩ (args:= [.agg (wA .u8 64 L),.slice bp l cp,.int .i64 (n:Int)]) (by show(Go.Ev.okp 3 (.agg (wA .u8 64 L)) && (Go.Ev.okp 3 (.slice bp l cp) && (Go.Ev.okp 3 (.int .i64 (n:Int)) && true)))=true;rw[show Go.Ev.okp 3 (.slice bp l cp)=true from hI.okp];rfl) (r:=6) (by kernel_rfl) (xpu g0 g1 t a bp l cp n L _ (fun _=>undef) hI rfl hl hn hL) ?_
  rintro e s ⟨rfl,hh⟩
  obtain⟨X,j,c,ch,hX,rfl⟩:=hh
  subst hX
  exact⟨rfl,4,by decide,rfl,rfl⟩
theorem liftM {P:Program} {f:FuncId} {pre post:List Value} (hp:pre.all np=true) (hq:post.all np=true) {x0 x1:Mb} {mem:List Mb} {bp:Option Addr} {l cp:Nat} (hB:BytesOk mem bp l cp) (h0:mem[0]? =some x0) (h1:mem[1]? =some x1) {Φ:World→Ending→World→Prop} (hS:∀ y q,BytesOk [x0,x1,y] q l cp→bytesOf [x0,x1,y] q l=bytesOf mem bp l→∀ w β,Has w β [x0,x1,y]→(∀ i,i<2→β i=i)→Calls P f ((pre ++ Value.slice q l cp :: post).map (rn β)).toArray w (Φ w)) {w:World} {β:Nat→Nat} (hw:Has w β mem) (b0:β 0=0) (b1:β 1=1):Calls P f ((pre ++ Value.slice bp l cp :: post).map (rn β)).toArray w (Φ w):=by
  obtain⟨y,j,q,hy,hM,hr⟩:=hB.move h0
  obtain⟨h2,h3⟩:=hM [x0,x1,y] 2 rfl
  have h:=hS y (q 2) h2 h3 w (fun i=>if i=2 then β j else β i) (has3m hw h0 h1 hy) (gl2 b0 b1 (fun i hi=>by show(if i=2 then β j else β i)=β i;rw[if_neg (by omega)]))
  have e : (pre ++ Value.slice (q 2) l cp :: post).map (rn fun i => if i = 2 then β j else β i) = (pre ++ Value.slice bp l cp :: post).map (rn β) := by
    rw[List.map_append,List.map_append,List.map_cons,List.map_cons]
    congr 1
    · exact List.map_congr_left fun u hu=>by rw[rn_np (List.all_eq_true.1 hp u hu),rn_np (List.all_eq_true.1 hp u hu)]
    · rw [hr β (fun i => if i = 2 then β j else β i) 2 (by simp)]
      congr 1
      exact List.map_congr_left fun u hu=>by rw[rn_np (List.all_eq_true.1 hq u hu),rn_np (List.all_eq_true.1 hq u hu)]
  rw[e] at h
  exact h
theorem makes_lift {P:Program} {f:FuncId} {u v:Value} (hp:np u=true) (hq:np v=true) {x0 x1:Mb} {mem:List Mb} {bp:Option Addr} {l cp:Nat} (hB:BytesOk mem bp l cp) (h0:mem[0]? =some x0) (h1:mem[1]? =some x1) {cs:Array Value} {t:TypeId} {n k:Nat} (hS:∀ y q,BytesOk [x0,x1,y] q l cp→bytesOf [x0,x1,y] q l=bytesOf mem bp l→Makes P f [x0,x1,y] [u,.slice q l cp,v] cs t n k 2):Makes P f mem [u,.slice bp l cp,v] cs t n k 2:=fun w β hw hg=>
  liftM (pre:= [u]) (post:= [v]) (Φ:=fun w e w'=>∃ b,e= .returned (.slice (some ⟨b,0,none⟩) n k)∧w.heap.size≤b∧w'.heap[b]? =some (.cells cs t (0,0))∧Below w.heap.size w w') (by simp[hp]) (by simp[hq]) hB h0 h1 (fun y q hq he w β h2 h3=>hS y q hq he w β h2 h3) hw (hg 0 (by decide)) (hg 1 (by decide))
def mXp : Maker Tryd.prog where
  f:=39
  ng:=2
  g := fun mem xs => match xs with
    | [.agg B, .slice bp l cp, .int .i64 n] => (match mem[0]?, mem[1]? with
      |some (x0,_),some (x1,_)=>some (wA .u8 n.toNat (okN B (bytesOf mem bp l) n.toNat),5,n.toNat,n.toNat,(x0=wA .u32 64 kL2∧x1=wA .u64 80 kL5∧BytesOk mem bp l cp∧l≤10000000∧(0≤n∧n≤8160)∧∃ L:List Int,B=wA .u8 64 L∧∀ x ∈ L,0≤x∧x<256))
      |_,_=>none)
    |_=>none
  ok := fun mem xs cs t n k c e hc w β hw hg => by
    split at e
    · rename_i B bp l cp z
      split at e
      · rename_i x0 g0 x1 g1 h0 h1
        simp only[Option.some.injEq,Prod.mk.injEq] at e
        obtain⟨rfl,rfl,rfl,rfl,rfl⟩:=e
        obtain⟨rfl,rfl,hB,hl,hz,L,rfl,hL⟩:=hc
        obtain⟨n,rfl⟩:∃ n:Nat,z=(n:Int):=⟨z.toNat,by omega⟩
        rw[Int.toNat_natCast]
        refine makes_lift rfl rfl hB h0 h1 (fun y q hq he=> ?_) w β hw hg
        rw[← he]
        exact Xp_c g0 g1 y.2 y.1 q l cp n L hq hl (by omega) hL
      · cases e
    · cases e
  call:=call_of Tryd.func39 (by kernel_rfl) (by kernel_rfl)
def eeA_h (i:Nat):Hn:=⟨0,[],[],[],[]⟩
abbrev eeA_R (w:List Nat) (S:FS) (e:Exit) (K:FS→Prop):Prop:=Rn Tryd.prog (cAt w (bdy Tryd.f22)) S e K 2000004
structure eeA_c (g0 g1 t1 t2:Tq) (a1 a2:Array Value) (b1 b2:Option Addr) (l1 c1 l2 c2:Nat) (N1 N2:List Int) (n:Nat):Prop where
  hk:BytesOk [(wA .u32 64 kL2,g0),(wA .u64 80 kL5,g1),(a1,t1),(a2,t2)] b1 l1 c1
  hN1:bytesOf [(wA .u32 64 kL2,g0),(wA .u64 80 kL5,g1),(a1,t1),(a2,t2)] b1 l1=N1
  ht:BytesOk [(wA .u32 64 kL2,g0),(wA .u64 80 kL5,g1),(a1,t1),(a2,t2)] b2 l2 c2
  hN2:bytesOf [(wA .u32 64 kL2,g0),(wA .u64 80 kL5,g1),(a1,t1),(a2,t2)] b2 l2=N2
  hl:l1≤10000000∧l2≤10000000
  hn:n≤8160
variable {g0 g1 t1 t2:Tq} {a1 a2:Array Value} {b1 b2:Option Addr} {l1 c1 l2 c2:Nat} {N1 N2:List Int} {n:Nat} {k_1:eeA_c g0 g1 t1 t2 a1 a2 b1 b2 l1 c1 l2 c2 N1 N2 n}
abbrev eeA (_:eeA_c g0 g1 t1 t2 a1 a2 b1 b2 l1 c1 l2 c2 N1 N2 n):FS:=⟨true,17,[(0,.slice b1 l1 c1),(1,.slice b2 l2 c2),(2,.int .i64 (n:Int))],[((wA .u32 64 kL2),g0),((wA .u64 80 kL5),g1),(a1,t1),(a2,t2)]⟩
abbrev eeB (_:eeA_c g0 g1 t1 t2 a1 a2 b1 b2 l1 c1 l2 c2 N1 N2 n):FS:=⟨false,17,[(6,.slice (some ⟨4,0,none⟩) n n),(7,.int .i64 0)],[((wA .u32 64 kL2),g0),((wA .u64 80 kL5),g1),(a1,t1),(a2,t2),((wA .u8 n (okN (wA .u8 64 (key2 N1)) N2 n)),(5,(0,0)))]⟩
theorem eeu':eeA_R [] (eeA k_1) .ret (fun z_=>z_=eeB k_1):=by
  have⟨hk,hN1,ht,hN2,hl,hn⟩:=id k_1
  exact rn_ev (yty.enm tabM3 [mXp] 2000004) eeA_h mixed (⟨false,17,[(6,.slice (some ⟨4,0,none⟩) n n),(7,.int .i64 0)],[((wA .u32 64 kL2),g0),((wA .u64 80 kL5),g1),(a1,t1),(a2,t2),((wA .u8 n (okN (wA .u8 64 (key2 (bytesOf [((wA .u32 64 kL2),g0),((wA .u64 80 kL5),g1),(a1,t1),(a2,t2)] b1 l1))) (bytesOf [((wA .u32 64 kL2),g0),((wA .u64 80 kL5),g1),(a1,t1),(a2,t2)] b2 l2) n)),(5,(0,0)))]⟩) none [some (.bool false),some (.bool false)] [(7,(decide ((n:Int)<0))=false),(3,(decide (8160<(n:Int)))=false),(2,((wA .u32 64 kL2)=wA .u32 64 kL2∧(wA .u64 80 kL5)=wA .u64 80 kL5∧BytesOk [((wA .u32 64 kL2),g0),((wA .u64 80 kL5),g1),(a1,t1),(a2,t2)] b1 l1 c1∧l1≤100000000)),(4,((wA .u32 64 kL2)=wA .u32 64 kL2∧(wA .u64 80 kL5)=wA .u64 80 kL5∧BytesOk [((wA .u32 64 kL2),g0),((wA .u64 80 kL5),g1),(a1,t1),(a2,t2)] b2 l2 c2∧l2≤10000000∧(0≤(n:Int)∧(n:Int)≤8160)∧∃ L:List Int,(wA .u8 64 (key2 (bytesOf [((wA .u32 64 kL2),g0),((wA .u64 80 kL5),g1),(a1,t1),(a2,t2)] b1 l1)))=wA .u8 64 L∧∀ x ∈ L,0≤x∧x<256))] 2 (fun j M=>by kernel_rfl) (A1 (decide_eq_false (by omega)) (A1 (decide_eq_false (by omega)) (A1 ⟨rfl,rfl,hk,by omega⟩ (A1 ⟨rfl,rfl,ht,hl.2,by omega,_,rfl,key2_bt hk.bt⟩ A0)))) (by
    delta eeB
    rw[hN1,hN2]
    try kernel_rfl)
abbrev eeA_s (g0 g1 t1 t2:Tq) (a1 a2:Array Value) (b1 b2:Option Addr) (l1 c1 l2 c2:Nat) (N1 N2:List Int) (n:Nat) (j:Nat→Value):List Value:=([.slice b1 l1 c1,.slice b2 l2 c2,.int .i64 (n:Int)] ++ (JU 14))
abbrev eeA_m (g0 g1 t1 t2:Tq) (a1 a2:Array Value) (b1 b2:Option Addr) (l1 c1 l2 c2:Nat) (N1 N2:List Int) (n:Nat):List Mb:= [((wA .u32 64 kL2),g0),((wA .u64 80 kL5),g1),(a1,t1),(a2,t2)]
abbrev eeB_s (g0 g1 t1 t2:Tq) (a1 a2:Array Value) (b1 b2:Option Addr) (l1 c1 l2 c2:Nat) (N1 N2:List Int) (n:Nat) (j:Nat→Value):List Value:=(J j 0 6 ++ ([.slice (some ⟨4,0,none⟩) n n,.int .i64 0] ++ (J j 8 9)))
abbrev eeB_m (g0 g1 t1 t2:Tq) (a1 a2:Array Value) (b1 b2:Option Addr) (l1 c1 l2 c2:Nat) (N1 N2:List Int) (n:Nat):List Mb:= [((wA .u32 64 kL2),g0),((wA .u64 80 kL5),g1),(a1,t1),(a2,t2),((wA .u8 n (okN (wA .u8 64 (key2 N1)) N2 n)),(5,(0,0)))]
theorem eeu (g0 g1 t1 t2:Tq) (a1 a2:Array Value) (b1 b2:Option Addr) (l1 c1 l2 c2:Nat) (N1 N2:List Int) (n:Nat) (j:Nat→Value) (hk:BytesOk [(wA .u32 64 kL2,g0),(wA .u64 80 kL5,g1),(a1,t1),(a2,t2)] b1 l1 c1) (hN1:bytesOf [(wA .u32 64 kL2,g0),(wA .u64 80 kL5,g1),(a1,t1),(a2,t2)] b1 l1=N1) (ht:BytesOk [(wA .u32 64 kL2,g0),(wA .u64 80 kL5,g1),(a1,t1),(a2,t2)] b2 l2 c2) (hN2:bytesOf [(wA .u32 64 kL2,g0),(wA .u64 80 kL5,g1),(a1,t1),(a2,t2)] b2 l2=N2) (hl:l1≤10000000∧l2≤10000000) (hn:n≤8160)  :Runs Tryd.prog (cAt [] (bdy Tryd.f22)) ⟨eeA_s g0 g1 t1 t2 a1 a2 b1 b2 l1 c1 l2 c2 N1 N2 n j,eeA_m g0 g1 t1 t2 a1 a2 b1 b2 l1 c1 l2 c2 N1 N2 n,c0,ch0⟩ (fun e s=>e= .ret∧∃j c ch,s=⟨eeB_s g0 g1 t1 t2 a1 a2 b1 b2 l1 c1 l2 c2 N1 N2 n j,eeB_m g0 g1 t1 t2 a1 a2 b1 b2 l1 c1 l2 c2 N1 N2 n,c,ch⟩) 2000004:=by
  refine(Rn.old (eeu' (k_1:=(⟨hk,hN1,ht,hN2,hl,hn⟩:eeA_c g0 g1 t1 t2 a1 a2 b1 b2 l1 c1 l2 c2 N1 N2 n))) j (by kernel_rfl)).mono ?_
  rintro e s ⟨rfl,_,rfl,j,c,ch,rfl⟩
  exact⟨rfl,j,c,ch,by kernel_rfl⟩
theorem Ee_c (g0 g1 t1 t2:Tq) (a1 a2:Array Value) (b1 b2:Option Addr) (l1 c1 l2 c2 n:Nat) (hk:BytesOk [(wA .u32 64 kL2,g0),(wA .u64 80 kL5,g1),(a1,t1),(a2,t2)] b1 l1 c1) (ht:BytesOk [(wA .u32 64 kL2,g0),(wA .u64 80 kL5,g1),(a1,t1),(a2,t2)] b2 l2 c2) (hl:l1≤10000000∧l2≤10000000) (hn:n≤8160):MakesT Tryd.prog 22 [(wA .u32 64 kL2,g0),(wA .u64 80 kL5,g1),(a1,t1),(a2,t2)] [.slice b1 l1 c1,.slice b2 l2 c2,.int .i64 (n:Int)] .u8 n (okN (wA .u8 64 (key2 (bytesOf [(wA .u32 64 kL2,g0),(wA .u64 80 kL5,g1),(a1,t1),(a2,t2)] b1 l1))) (bytesOf [(wA .u32 64 kL2,g0),(wA .u64 80 kL5,g1),(a1,t1),(a2,t2)] b2 l2) n) 5 (.int .i64 0) 2:=by
  refine makesT_runs (fk:=2000004) Tryd.func22 (c:=bdy Tryd.f22) (by kernel_rfl) ⟨len4 _ _ _ _,by decide⟩ (args:= [.slice b1 l1 c1,.slice b2 l2 c2,.int .i64 (n:Int)]) (by show(Go.Ev.okp 4 (.slice b1 l1 c1) && (Go.Ev.okp 4 (.slice b2 l2 c2) && (Go.Ev.okp 4 (.int .i64 (n:Int)) && true)))=true;rw[show Go.Ev.okp 4 (.slice b1 l1 c1)=true from hk.okp,show Go.Ev.okp 4 (.slice b2 l2 c2)=true from ht.okp];rfl) (r:=6) (r2:=7) (by kernel_rfl) (eeu g0 g1 t1 t2 a1 a2 b1 b2 l1 c1 l2 c2 _ _ n (fun _=>undef) hk rfl ht rfl hl hn) (fun e s h=>by
    obtain⟨rfl,j,c,ch,rfl⟩:=h
    exact⟨rfl,rfl,rfl,4,n,by decide,by rw[okN_len];exact Nat.le_refl _,rfl,rfl⟩)
theorem liftM2 {P:Program} {f:FuncId} {post:List Value} (hp:post.all np=true) {x0 x1:Mb} {mem:List Mb} {bp bq:Option Addr} {l cp m cq:Nat} (hB:BytesOk mem bp l cp) (hC:BytesOk mem bq m cq) (h0:mem[0]? =some x0) (h1:mem[1]? =some x1) {Φ:World→Ending→World→Prop} (hS:∀ y z q r,BytesOk [x0,x1,y,z] q l cp→bytesOf [x0,x1,y,z] q l=bytesOf mem bp l→BytesOk [x0,x1,y,z] r m cq→bytesOf [x0,x1,y,z] r m=bytesOf mem bq m→∀ w β,Has w β [x0,x1,y,z]→(∀ i,i<2→β i=i)→Calls P f ((Value.slice q l cp :: .slice r m cq :: post).map (rn β)).toArray w (Φ w)) {w:World} {β:Nat→Nat} (hw:Has w β mem) (b0:β 0=0) (b1:β 1=1):Calls P f ((Value.slice bp l cp :: .slice bq m cq :: post).map (rn β)).toArray w (Φ w):=by
  obtain⟨y,j,q,hy,hM,hr⟩:=hB.move h0
  obtain⟨z,k,r,hz,hN,hs⟩:=hC.move h0
  obtain⟨h2,h3⟩:=hM [x0,x1,y,z] 2 rfl
  obtain⟨h4,h5⟩:=hN [x0,x1,y,z] 3 rfl
  have h:=hS y z (q 2) (r 3) h2 h3 h4 h5 w (fun i=>if i=2 then β j else if i=3 then β k else β i) (has4m hw h0 h1 hy hz) (gl2 b0 b1 (fun i hi=>by show(if i=2 then β j else if i=3 then β k else β i)=β i;rw[if_neg (by omega),if_neg (by omega)]))
  have e:(Value.slice (q 2) l cp :: .slice (r 3) m cq :: post).map (rn fun i=>if i=2 then β j else if i=3 then β k else β i)=(Value.slice bp l cp :: .slice bq m cq :: post).map (rn β):=by
    simp only[List.map_cons]
    rw[hr β (fun i=>if i=2 then β j else if i=3 then β k else β i) 2 (by simp),hs β (fun i=>if i=2 then β j else if i=3 then β k else β i) 3 (by simp)]
    congr 2
    exact List.map_congr_left fun u hu=>by rw[rn_np (List.all_eq_true.1 hp u hu),rn_np (List.all_eq_true.1 hp u hu)]
  rw[e] at h
  exact h
theorem Ee_m {x0 x1:Mb} {mem:List Mb} (b1 b2:Option Addr) (l1 c1 l2 c2 n:Nat) (h0:mem[0]? =some x0) (h1:mem[1]? =some x1) (e0:x0.1=wA .u32 64 kL2) (e1:x1.1=wA .u64 80 kL5) (hk:BytesOk mem b1 l1 c1) (ht:BytesOk mem b2 l2 c2) (hl:l1≤10000000∧l2≤10000000) (hn:n≤8160):MakesT Tryd.prog 22 mem [.slice b1 l1 c1,.slice b2 l2 c2,.int .i64 (n:Int)] .u8 n (okN (wA .u8 64 (key2 (bytesOf mem b1 l1))) (bytesOf mem b2 l2) n) 5 (.int .i64 0) 2:=fun w β hw hg=>by
  obtain⟨x0,g0⟩:=x0
  obtain⟨x1,g1⟩:=x1
  simp only at e0 e1
  subst e0 e1
  refine liftM2 (post:= [.int .i64 (n:Int)]) (Φ:=fun w r w'=>∃ b cap,(okN (wA .u8 64 (key2 (bytesOf mem b1 l1))) (bytesOf mem b2 l2) n).length≤cap∧r= .returned (.tuple #[.slice (some ⟨b,0,none⟩) n cap,.int .i64 0])∧w.heap.size≤b∧w'.heap[b]? =some (.cells (wA .u8 cap (okN (wA .u8 64 (key2 (bytesOf mem b1 l1))) (bytesOf mem b2 l2) n)) 5 (0,0))∧Below w.heap.size w w') rfl hk ht h0 h1 (fun y z q r k1 k2 k3 k4=> ?_) hw (hg 0 (by decide)) (hg 1 (by decide))
  rw[← k2,← k4]
  exact Ee_c g0 g1 y.2 z.2 y.1 z.1 q r l1 c1 l2 c2 n k1 k3 hl hn
end Go.Proofs.YtcfnjcacdmkgbaaDoor

set_option linter.unusedSimpArgs false
set_option linter.unusedVariables false
/-! mac: fewer bytes are the beginning of more. -/
namespace Go.Proofs.YtcfnjcacdmkgbaaDoor
open Go.RowKit Go.Ev
variable {c0:Prop} {ch0:List (Option Value)}
theorem ext_wA {c l:Nat} {L:List Int} (h:l≤L.length) (hc:L.length≤c) (hb:∀ x ∈ L,0≤x∧x<256):((wA .u8 c L).extract 0 (0+l)).all isB8=true∧0+l≤(wA .u8 c L).size:=
  ⟨b8_ext (fun j hj=>bytes_wA hb j (by omega)) (by rw[wA_size];omega),by rw[wA_size];omega⟩
theorem ext_eq {c d l:Nat} {L N:List Int} (hc:l≤c) (hd:l≤d) (h:∀ i,i<l→L.getD i 0=N.getD i 0):(wA .u8 c L).extract 0 (0+l)=(wA .u8 d N).extract 0 (0+l):=by
  apply Array.ext_getElem?
  intro i
  by_cases hi:i<l
  · rw[Array.getElem?_extract_of_lt (by rw[wA_size];omega),Array.getElem?_extract_of_lt (by rw[wA_size];omega),← Array.getElem?_eq_getElem,← Array.getElem?_eq_getElem,Nat.zero_add,wA_at (by omega),wA_at (by omega),h i hi]
  · rw[Array.getElem?_eq_none (by simp only[Array.size_extract,wA_size];omega),Array.getElem?_eq_none (by simp only[Array.size_extract,wA_size];omega)]
variable {g0 g1 t1 t2:Tq} {a1 a2:Array Value} {b1 b2:Option Addr} {l1 c1 l2 c2:Nat} {N1 N2:List Int} {z z2:Int}
variable {m n:Nat}
variable {k:Nat}
variable {k2:Nat}
end Go.Proofs.YtcfnjcacdmkgbaaDoor
