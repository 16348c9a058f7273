import Derived.Test.YtcfnjcacdmkgbaaDoorZMEndsSdD1
import Derived.Test.YtcfnjcacdmkgbaaDoorZMEndsSdB1
import Derived.Test.YtcfnjcacdmkgbaaDoorZMEndsByA1
import Derived.Test.YtcfnjcacdmkgbaaDoorZMEndsShK1
set_option linter.unusedSimpArgs false
set_option linter.unusedVariables false
/-! The document's SHA-2: Sum256 and Sum512. -/
namespace Go.Proofs.YtcfnjcacdmkgbaaDoor
open Go.RowKit Go.Ev
variable {c0:Prop} {ch0:List (Option Value)}
theorem makesA_lift2 {P : Program} {f : FuncId} {q0 : Value} (hq : np q0 = true) {n ng : Nat} {L : List Int} {e : TypeId} {mem : List Mb} {bp : Option Addr} {l cp : Nat} {N : List Int} (hu : SrcOk .u8 mem (.slice bp l cp) N) (h0 : ∃ x, mem[0]? = some x) (hS : ∀ a t bp, SrcOk .u8 [(a, t)] (.slice bp l cp) N → MakesA P f [(a, t)] [q0, .slice bp l cp] .u8 n L e) : MakesA P f mem [q0, .slice bp l cp] .u8 n L e ng := fun w β hw hg => by
  have e1:∀ β:Nat→Nat,rn β q0=q0:=fun β=>rn_np hq
  rcases hu.h with⟨h1,h2⟩|⟨j,p,c,src,st,h1,h2,h3,h4⟩
  · cases h1
    obtain⟨x,hx0⟩:=h0
    have h := hS x.1 x.2 none ⟨.inl ⟨rfl, h2⟩⟩ w (fun _ => β 0) (fun i y hy => by
      cases i with
      | zero =>
        simp only[List.getElem?_cons_zero,Option.some.injEq] at hy
        subst hy
        exact hw 0 _ hx0
      |succ i=>simp at hy) (fun i hi=>by omega)
    simp only[List.map_cons,List.map_nil,e1] at h ⊢
    exact h
  · cases h1
    have h := hS src st _ ⟨.inr ⟨0, p, cp, src, st, rfl, rfl, h3, h4⟩⟩ w (fun _ => β j) (fun i x hx => by
      cases i with
      | zero =>
        simp only[List.getElem?_cons_zero,Option.some.injEq] at hx
        subst hx
        exact hw j _ h2
      |succ i=>simp at hx) (fun i hi=>by omega)
    simp only[List.map_cons,List.map_nil,e1] at h ⊢
    exact h
theorem reads_lift {P : Program} {f : FuncId} {v : Value} {mem : List Mb} {bp : Option Addr} {l cp : Nat} {N : List Int} (hu : SrcOk .u8 mem (.slice bp l cp) N) (h0 : ∃ x, mem[0]? = some x) (hS : ∀ a t bp, SrcOk .u8 [(a, t)] (.slice bp l cp) N → Reads P f [(a, t)] [.slice bp l cp] v) {w : World} {β : Nat → Nat} (hw : Has w β mem) : Calls P f ([Value.slice bp l cp].map (rn β)).toArray w (fun e w' => e = .returned v ∧ Below w.heap.size w w') := by
  rcases hu.h with⟨h1,h2⟩|⟨j,p,c,src,st,h1,h2,h3,h4⟩
  · cases h1
    obtain⟨x,hx0⟩:=h0
    exact hS x.1 x.2 none ⟨.inl ⟨rfl,h2⟩⟩ w (fun _=>β 0) (fun i y hy=>by
      cases i with
      | zero =>
        simp only[List.getElem?_cons_zero,Option.some.injEq] at hy
        subst hy
        exact hw 0 _ hx0
      |succ i=>simp at hy) (fun i hi=>by omega)
  · cases h1
    exact hS src st _ ⟨.inr ⟨0,p,cp,src,st,rfl,rfl,h3,h4⟩⟩ w (fun _=>β j) (fun i x hx=>by
      cases i with
      | zero =>
        simp only[List.getElem?_cons_zero,Option.some.injEq] at hx
        subst hx
        exact hw j _ h2
      |succ i=>simp at hx) (fun i hi=>by omega)
def bytesOf (mem : List Mb) (bp : Option Addr) (l : Nat) : List Int := match bp with
  | some ⟨i, o, _⟩ => (match mem[i]? with
    |some x=>bL x.1 o l
    |none=> [])
  |none=> []
theorem tk_step {L:List Int} {i:Nat} (h:i<L.length):L.take i ++ [L.getD i 0]=L.take (i+1):=by
  rw[List.getD_eq_getElem?_getD,List.getElem?_eq_getElem h,Option.getD_some,List.take_append_getElem h]
def sh2 (N:List Int):List Int:=oL2 [(hsD2 (ful2 N) ((ful2 N).length / 64)).a,(hsD2 (ful2 N) ((ful2 N).length / 64)).b,(hsD2 (ful2 N) ((ful2 N).length / 64)).c,(hsD2 (ful2 N) ((ful2 N).length / 64)).d,(hsD2 (ful2 N) ((ful2 N).length / 64)).e,(hsD2 (ful2 N) ((ful2 N).length / 64)).f,(hsD2 (ful2 N) ((ful2 N).length / 64)).g,(hsD2 (ful2 N) ((ful2 N).length / 64)).h] 32
theorem sh2_len (N:List Int):(sh2 N).length=32:=oL2_len _ _
theorem ful2_mul (N:List Int) (h:N.length≤1000000000):(ful2 N).length=64*((ful2 N).length / 64):=by
  rw[ful2_len];omega
theorem sum2_sh {a:Array Value} {o l:Nat} (hb:bytesAt a o l) (hl:l≤1000000000):sum2 a o l=sh2 (bL a o l):=
  (sumq2 hb hl (ful2_mul _ (by rw[bL_len];exact hl)) rfl).symm
theorem DSum2_c (a:Array Value) (t:Tq) (bp:Option Addr) (l cp:Nat) (N:List Int) (hu:SrcOk .u8 [(a,t)] (.slice bp l cp) N) (hN:N.length=l) (hl:l≤1000000000):MakesA Tryd.prog 32 [(a,t)] [.agg qC2,.slice bp l cp] .u8 32 (sh2 N) 5:=by
  refine makesA_runs (fk:=1) Tryd.func32 (c:=bdy Tryd.f32) (by kernel_rfl) ⟨rfl,by decide⟩ (args:= [.agg qC2,.slice bp l cp]) (by show(true && (okp 1 (.slice bp l cp) && true))=true;rw[okp_src hu];rfl) (r:=4) (by kernel_rfl) (ds2co a t bp l cp N (fun _=>undef) hu hN hl) ?_
  rintro e s ⟨rfl,k14,y,kk,pp,i,q,c4,Y,j,c,ch,_,_,_,_,hy,hp,hk,hY,hYl,hq,hi,hc4,rfl⟩
  obtain rfl:q=32:=by omega
  have hL:Y=sh2 N:=by rw[hY,hy,hk];rfl
  subst hL
  exact⟨rfl,4,c4,by decide,by omega,rfl,rfl⟩
theorem DSumA2_c {mem:List Mb} {bp:Option Addr} {l cp ng:Nat} {N:List Int} (hu:SrcOk .u8 mem (.slice bp l cp) N) (h0:∃ x,mem[0]? =some x) (hN:N.length=l) (hl:l≤1000000000):MakesA Tryd.prog 32 mem [.agg qC2,.slice bp l cp] .u8 32 (sh2 N) 5 ng:=
  makesA_lift2 (np_agg _) hu h0 (fun a t bp h=>DSum2_c a t bp l cp N h hN hl)
def tabQ2:List (Entry Tryd.prog):=pdOf2 :: tab0
def du2A_h (i:Nat):Hn:=⟨0,[],[],[],[]⟩
abbrev du2A_R (w:List Nat) (S:FS) (e:Exit) (K:FS→Prop):Prop:=Rn Tryd.prog (cAt w (bdy Tryd.f12)) S e K 1
structure du2A_c (a:Array Value) (t:Tq) (bp:Option Addr) (l cp:Nat) (N:List Int):Prop where
  hu:SrcOk .u8 [(a,t)] (.slice bp l cp) N
  hN:N.length=l
  hl:l≤1000000000
variable {a:Array Value} {t:Tq} {bp:Option Addr} {l cp:Nat} {N:List Int} {k_1:du2A_c a t bp l cp N}
abbrev du2A (_:du2A_c a t bp l cp N):FS:=⟨true,20,[(0,.slice bp l cp)],[(a,t)]⟩
abbrev du2B (_:du2A_c a t bp l cp N):FS:=⟨false,20,[(0,.slice bp l cp),(2,.pointer (some ⟨1,0,none⟩))],[(a,t),((wA .u8 32 []),(25,(0,0)))]⟩
theorem du20:du2A_R [0] (du2A k_1) .normal (fun z_=>z_=du2B k_1):=rn_ev (yty.enf tabQ2 1) du2A_h mixed _ none [] [] 0 (fun j M=>by kernel_rfl) A0 rfl
abbrev du2C (_:du2A_c a t bp l cp N):FS:=⟨false,20,[(0,.slice bp l cp),(2,.pointer (some ⟨1,0,none⟩)),(3,.pointer (some ⟨2,0,none⟩))],[(a,t),((wA .u8 32 []),(25,(0,0))),((wA .u8 32 []),(25,(0,0)))]⟩
theorem du21:du2A_R [1,0] (du2B k_1) .normal (fun z_=>z_=du2C k_1):=rn_ev (yty.enf tabQ2 1) du2A_h mixed _ none [] [] 0 (fun j M=>by kernel_rfl) A0 rfl
structure du2D_c (_:du2A_c a t bp l cp N) (c3:Nat):Prop where
  hc:32≤c3
variable {c3:Nat} {k_2:du2D_c k_1 c3}
abbrev du2D (_:du2D_c k_1 c3):FS:=⟨false,20,[(2,.pointer (some ⟨1,0,none⟩)),(3,.pointer (some ⟨2,0,none⟩)),(4,.slice (some ⟨3,0,none⟩) 32 c3)],[(a,t),((wA .u8 32 []),(25,(0,0))),((wA .u8 32 []),(25,(0,0))),((wA .u8 c3 (sh2 N)),(5,(0,0)))]⟩
theorem du22:du2A_R [1,1,0] (du2C k_1) .normal (fun z_=>∃(k1:Nat) (k_2:du2D_c k_1 k1),z_=du2D k_2):=by
  have⟨hu,hN,hl⟩:=id k_1
  refine rn_reg none (by kernel_rfl) fun j c0 ch0=> ?_
  have hM1:MakesA Tryd.prog 32 [(a,t),((wA .u8 32 []),(25,(0,0))),((wA .u8 32 []),(25,(0,0)))] [.agg (wA .i64 14 [32,64,2,13,22,6,11,25,7,18,3,17,19,10]),.slice bp l cp] .u8 32 (sh2 N) 5 0:=(DSumA2_c (SrcOk.app (x:= [_,_]) hu) ⟨_,rfl⟩ hN hl)
  refine rl_call (yty.enf tabQ2 1) (call_of Tryd.func32 (by kernel_rfl) (by kernel_rfl)) 2 [] [] 2 3 (some 8) hM1 (by kernel_rfl) A0 fun k1 c1_ e1_ hk1=> ?_
  exact rl_end (E:=(yty.enf tabQ2 1)) _ [] [] 1 (fun M=>by kernel_rfl) A0 ⟨k1,⟨by have:=sh2_len N;omega⟩,rfl⟩
structure du2E_c (_:du2D_c k_1 c3) (i:Nat) (Y:List Int):Prop where
  hY:Y=(sh2 N).take i
  hYl:Y.length=i
  hi:i≤32
variable {i:Nat} {Y:List Int} {k_3:du2E_c k_2 i Y}
abbrev du2E (_:du2E_c k_2 i Y):FS:=⟨false,20,[(2,.pointer (some ⟨1,0,none⟩)),(3,.pointer (some ⟨2,0,none⟩)),(4,.slice (some ⟨3,0,none⟩) 32 c3),(5,.int .i64 (i:Int))],[(a,t),((wA .u8 32 []),(25,(0,0))),((wA .u8 32 Y),(25,(0,0))),((wA .u8 c3 (sh2 N)),(5,(0,0)))]⟩
theorem du23:du2A_R [1,1,1,0,0] (du2D k_2) .normal (fun z_=>∃(k_3:du2E_c k_2 0 ([]:List Int)),z_=du2E k_3):=rn_ev (yty.enf tabQ2 1) du2A_h mixed _ none [] [] 1 (fun j M=>by kernel_rfl) A0 ⟨⟨rfl,rfl,Nat.zero_le _⟩,rfl⟩
structure du2F_c (_:du2D_c k_1 c3) (i:Nat) (Y:List Int):Prop where
  hY:Y=(sh2 N).take i
  hYl:Y.length=i
  hi:i=32
variable {k_4:du2F_c k_2 i Y}
abbrev du2F (_:du2F_c k_2 i Y):FS:=⟨false,20,[(2,.pointer (some ⟨1,0,none⟩)),(3,.pointer (some ⟨2,0,none⟩)),(4,.slice (some ⟨3,0,none⟩) 32 c3),(5,.int .i64 (i:Int))],[(a,t),((wA .u8 32 []),(25,(0,0))),((wA .u8 32 Y),(25,(0,0))),((wA .u8 c3 (sh2 N)),(5,(0,0)))]⟩
theorem du24 (hlt:i<32):du2A_R [1,1,1,0,1,0,0] (du2E k_3) .normal (fun z_=>∃(k_3:du2E_c k_2 (i+1) (Y ++ [(sh2 N).getD i 0])),z_=du2E k_3):=by
  have⟨hu,hN,hl⟩:=id k_1
  have⟨hc⟩:=id k_2
  have⟨hY,hYl,hi⟩:=id k_3
  exact rn_ev (yty.enf tabQ2 1) du2A_h mixed _ none [some (.bool true),some (.int .u8 ((sh2 N).getD i 0)),some (.agg (wA .u8 32 (Y ++ [((sh2 N).getD i 0)]))),some (.int .i64 ((i+1:Nat):Int))] [(3,(decide ((i:Int)<32))=true),(6,((0:Int)≤(i:Int)∧((i:Int):Int)<((32:Nat):Int))),(0,(((wA .u8 c3 (sh2 N))[(0+Int.toNat (i:Int)*1)]? =some (.int .u8 ((sh2 N).getD i 0)))∧((sh2 N).getD i 0)=((sh2 N).getD i 0))),(0,(0≤(i:Int)∧(i:Int)<((32:Nat):Int))),(0,((0+Int.toNat (i:Int)*1)<(wA .u8 32 Y).size∧(wA .u8 32 Y).setIfInBounds (0+Int.toNat (i:Int)*1) (.int .u8 ((sh2 N).getD i 0))=(wA .u8 32 (Y ++ [((sh2 N).getD i 0)])))),(3,(IntKind.i64.wrap ((i:Int)+1))=((i+1:Nat):Int))] 1 (fun j M=>by kernel_rfl) (A1 (decide_eq_true (by omega)) (A1 (by(try simp only[Int.toNat_natCast,wA_size]);omega) (A1 ⟨(wA_get (by omega) (by omega)),rfl⟩ (A1 (by(try simp only[Int.toNat_natCast,wA_size]);omega) (A1 (wA_set (by omega) (by omega)) (A1 (wi64 (by omega)) A0)))))) ⟨⟨by rw[hY];exact tk_step (by rw[sh2_len];exact hlt),by simp only[List.length_append,List.length_cons,List.length_nil];omega,by omega⟩,rfl⟩
theorem du25 (hge:¬ i<32):du2A_R [1,1,1,0,1,0,0] (du2E k_3) (.exit 0) (fun z_=>∃(k_4:du2F_c k_2 i Y),z_=du2F k_4):=by
  have⟨hu,hN,hl⟩:=id k_1
  have⟨hc⟩:=id k_2
  have⟨hY,hYl,hi⟩:=id k_3
  exact rn_ev (yty.enf tabQ2 1) du2A_h mixed _ none [some (.bool false)] [(3,(decide ((i:Int)<32))=false)] 0 (fun j M=>by kernel_rfl) (A1 (decide_eq_false (by omega)) A0) ⟨⟨hY,hYl,by omega⟩,rfl⟩
theorem du26:du2A_R [1,1,1,0,1] (du2E k_3) .normal (fun z_=>∃(i:Nat) (Y:List Int) (k_4:du2F_c k_2 i Y),z_=du2F k_4):=by
  refine rn_loop (k:=0) (w:= [1,1,1,0,1]) (by kernel_rfl) (fun n_ z_=>∃(i:Nat) (Y:List Int) (k_3:du2E_c k_2 i Y),n_=32 - i∧z_=du2E k_3) _ ⟨_,_,k_3,rfl,rfl⟩ ?_
  rintro n_ _ ⟨i,Y,k_3,hn_,rfl⟩
  have⟨hu,hN,hl⟩:=k_1
  have⟨hc⟩:=k_2
  have⟨hY,hYl,hi⟩:=k_3
  by_cases hlt:i<32
  · exact(du24 hlt).x fun _ ⟨k_3,e_⟩=> .inl ⟨rfl,32 - (i+1),by omega,⟨_,_,k_3,rfl,e_⟩⟩
  · exact(du25 hlt).x fun _ ⟨k_4,e_⟩=> .inr ⟨rfl,⟨i,Y,k_4,e_⟩⟩
theorem du27:du2A_R [1,1,1,0] (du2D k_2) .normal (fun z_=>∃(i1:Nat) (Y1:List Int) (k_4:du2F_c k_2 i1 Y1),z_=du2F k_4):=by
  refine rn_seq (w:= [1,1,1,0]) (by kernel_rfl) du23 ?_
  rintro _ ⟨k_3,rfl⟩
  exact du26
abbrev du2G (_:du2F_c k_2 i Y):FS:=⟨false,20,[(2,.pointer (some ⟨1,0,none⟩))],[(a,t),((wA .u8 32 Y),(25,(0,0))),((wA .u8 32 Y),(25,(0,0))),((wA .u8 c3 (sh2 N)),(5,(0,0)))]⟩
theorem du28:du2A_R [1,1,1,1] (du2F k_4) .ret (fun z_=>z_=du2G k_4):=rn_ev (yty.enf tabQ2 1) du2A_h mixed _ none [] [(2,((wA .u8 32 Y).all (fun v=>v.oneCell')=true))] 0 (fun j M=>by kernel_rfl) (A1 (wA_one _ _ _) A0) rfl
theorem du29':du2A_R [] (du2A k_1) .ret (fun z_=>∃(k12 i13:Nat) (Y13:List Int) (k_2:du2D_c k_1 k12) (k_4:du2F_c k_2 i13 Y13),z_=du2G k_4):=by
  refine rn_seq (w:= []) (by kernel_rfl) du20 ?_
  rintro _ rfl
  refine rn_seq (w:= [1]) (by kernel_rfl) du21 ?_
  rintro _ rfl
  refine rn_seq (w:= [1,1]) (by kernel_rfl) du22 ?_
  rintro _ ⟨k12,k_2,rfl⟩
  refine rn_seq (w:= [1,1,1]) (by kernel_rfl) du27 ?_
  rintro _ ⟨i13,Y13,k_4,rfl⟩
  exact(du28).mono fun _ e_=>⟨k12,i13,Y13,k_2,k_4,e_⟩
abbrev du2A_s (a:Array Value) (t:Tq) (bp:Option Addr) (l cp:Nat) (N:List Int) (j:Nat→Value):List Value:=([.slice bp l cp] ++ (JU 19))
abbrev du2A_m (a:Array Value) (t:Tq) (bp:Option Addr) (l cp:Nat) (N:List Int):List Mb:= [(a,t)]
abbrev du2G_s (a:Array Value) (t:Tq) (bp:Option Addr) (l cp:Nat) (N:List Int) (c3 i:Nat) (Y:List Int) (j:Nat→Value):List Value:=([j 0,j 1,.pointer (some ⟨1,0,none⟩)] ++ (J j 3 17))
abbrev du2G_m (a:Array Value) (t:Tq) (bp:Option Addr) (l cp:Nat) (N:List Int) (c3 i:Nat) (Y:List Int):List Mb:= [(a,t),((wA .u8 32 Y),(25,(0,0))),((wA .u8 32 Y),(25,(0,0))),((wA .u8 c3 (sh2 N)),(5,(0,0)))]
theorem du29 (a:Array Value) (t:Tq) (bp:Option Addr) (l cp:Nat) (N:List Int) (j:Nat→Value) (hu:SrcOk .u8 [(a,t)] (.slice bp l cp) N) (hN:N.length=l) (hl:l≤1000000000)  :Runs Tryd.prog (cAt [] (bdy Tryd.f12)) ⟨du2A_s a t bp l cp N j,du2A_m a t bp l cp N,c0,ch0⟩ (fun e s=>e= .ret∧∃(k12:Nat) (i13:Nat) (Y13:List Int),∃j c ch,(32≤k12)∧(Y13=(sh2 N).take i13)∧(Y13.length=i13)∧(i13=32)∧s=⟨du2G_s a t bp l cp N k12 i13 Y13 j,du2G_m a t bp l cp N k12 i13 Y13,c,ch⟩) 1:=by
  refine(Rn.old (du29' (k_1:=(⟨hu,hN,hl⟩:du2A_c a t bp l cp N))) j (by kernel_rfl)).mono ?_
  rintro e s ⟨rfl,_,⟨k12,i13,Y13,k_2,k_4,rfl⟩,j,c,ch,rfl⟩
  have⟨x_hc⟩:=k_2
  have⟨x_hY,x_hYl,x_hi⟩:=k_4
  exact⟨rfl,k12,i13,Y13,j,c,ch,x_hc,x_hY,x_hYl,x_hi,by kernel_rfl⟩
theorem DS2_c (a:Array Value) (t:Tq) (bp:Option Addr) (l cp:Nat) (N:List Int) (hu:SrcOk .u8 [(a,t)] (.slice bp l cp) N) (hN:N.length=l) (hl:l≤1000000000):Reads Tryd.prog 12 [(a,t)] [.slice bp l cp] (.agg (wA .u8 32 (sh2 N))):=by
  refine reads_runs (fk:=1) (yty.enf tabQ2 1) Tryd.func12 (c:=bdy Tryd.f12) (by kernel_rfl) ⟨rfl,by decide⟩ (args:= [.slice bp l cp]) (by show(okp 1 (.slice bp l cp) && true)=true;rw[okp_src hu];rfl) (du29 a t bp l cp N (fun _=>undef) hu hN hl) ?_
  rintro e s ⟨rfl,hh⟩
  obtain⟨k12,i,Y,j,c,ch,hc,hY,hYl,hi,rfl⟩:=hh
  have hL:Y=sh2 N:=by rw[hY,hi,List.take_of_length_le (by rw[sh2_len];decide)]
  subst hL
  exact⟨rfl,[.agg (wA .u8 32 (sh2 N))],by kernel_rfl,rfl⟩
def pDS2 : Entry Tryd.prog where
  f:=12
  g := fun mem xs => match xs with
    | [.slice bp l cp]=>some (.agg (wA .u8 32 (sh2 (bytesOf mem bp l))),(SrcOk .u8 mem (.slice bp l cp) (bytesOf mem bp l)∧(∃ x,mem[0]? =some x)∧(bytesOf mem bp l).length=l∧l≤1000000000))
    |_=>none
  ok := fun mem xs u c e hc w β hw _ => by
    split at e
    · simp only [Option.some.injEq, Prod.mk.injEq] at e
      obtain⟨rfl,rfl⟩:=e
      exact reads_lift hc.1 hc.2.1 (fun a t bp h=>DS2_c a t bp _ _ _ h hc.2.2.1 hc.2.2.2) hw
    · cases e
  call:=call_of Tryd.func12 (by kernel_rfl) (by kernel_rfl)
def sh5 (N:List Int):List Int:=oL5 [(hsD5 (ful5 N) ((ful5 N).length / 128)).a,(hsD5 (ful5 N) ((ful5 N).length / 128)).b,(hsD5 (ful5 N) ((ful5 N).length / 128)).c,(hsD5 (ful5 N) ((ful5 N).length / 128)).d,(hsD5 (ful5 N) ((ful5 N).length / 128)).e,(hsD5 (ful5 N) ((ful5 N).length / 128)).f,(hsD5 (ful5 N) ((ful5 N).length / 128)).g,(hsD5 (ful5 N) ((ful5 N).length / 128)).h] 64
theorem sh5_len (N:List Int):(sh5 N).length=64:=oL5_len _ _
theorem ful5_mul (N:List Int) (h:N.length≤1000000000):(ful5 N).length=128*((ful5 N).length / 128):=by
  rw[ful5_len];omega
theorem sum5_sh {a:Array Value} {o l:Nat} (hb:bytesAt a o l) (hl:l≤1000000000):sum5 a o l=sh5 (bL a o l):=
  (sumq5 hb hl (ful5_mul _ (by rw[bL_len];exact hl)) rfl).symm
structure du5A_c (a:Array Value) (t:Tq) (bp:Option Addr) (l cp:Nat) (N:List Int):Prop where
  hu:SrcOk .u8 [(a,t)] (.slice bp l cp) N
  hN:N.length=l
  hl:l≤1000000000
variable {k_5:du5A_c a t bp l cp N}
structure du5D_c (_:du5A_c a t bp l cp N) (c3:Nat):Prop where
  hc:64≤c3
variable {k_6:du5D_c k_5 c3}
structure du5E_c (_:du5D_c k_5 c3) (i:Nat) (Y:List Int):Prop where
  hY:Y=(sh5 N).take i
  hYl:Y.length=i
  hi:i≤64
variable {k_7:du5E_c k_6 i Y}
structure du5F_c (_:du5D_c k_5 c3) (i:Nat) (Y:List Int):Prop where
  hY:Y=(sh5 N).take i
  hYl:Y.length=i
  hi:i=64
variable {k_8:du5F_c k_6 i Y}
end Go.Proofs.YtcfnjcacdmkgbaaDoor

set_option linter.unusedSimpArgs false
set_option linter.unusedVariables false
/-! Sha256, Sha512: the laws. -/
namespace Go.Proofs.YtcfnjcacdmkgbaaDoor
open Go.RowKit Go.Ev
variable {c0:Prop} {ch0:List (Option Value)}
theorem lentb {a:Array Value} {o l c:Nat} (hb:bytesAt a o l) (hc:l+1≤c):bytesAt (wA .u8 c (bL a o l ++ [77])) 0 l:=fun j hj=>by
  rw[Nat.zero_add]
  have e:iat (wA .u8 c (bL a o l ++ [77])) j=iat a (o+j):=by
    unfold iat
    rw[wA_at (by omega),getD_app,bL_len,if_pos hj,bL_at,if_pos hj]
    rfl
  have h:=hb j hj
  rw[e]
  refine⟨?_,h.2⟩
  rw[wA_at (by omega),getD_app,bL_len,if_pos hj,bL_at,if_pos hj]
theorem lent_bL {a:Array Value} {o l c:Nat} (hb:bytesAt a o l) (hc:l+1≤c):bL (wA .u8 c (bL a o l ++ [77])) 0 l=bL a o l:=by
  unfold bL
  apply List.map_congr_left
  intro j hj
  have hj:j<l:=by simpa using hj
  rw[Nat.zero_add]
  have e:iat (wA .u8 c (bL a o l ++ [77])) j=iat a (o+j):=by
    unfold iat
    rw[wA_at (by omega),getD_app,bL_len,if_pos hj,bL_at,if_pos hj]
    rfl
  exact e
theorem ext_bL {a:Array Value} {o l:Nat} (hb:bytesAt a o l) (hz:o+l≤a.size):a.extract o (o+l)=(Go.Ev.iv .u8 (bL a o l)).toArray:=by
  rcases(src_b (mem:= [(a,(0,0,0))]) (i:=0) (c:=l) rfl hb hz).h with⟨h,_⟩|⟨j,p,c,src,st,h1,h2,h3,h4⟩
  · cases h
  · rw [bL_len] at h1 h4
    cases h1
    cases h2
    exact h4
theorem b8_ext {a:Array Value} {o l:Nat} (hb:bytesAt a o l) (hz:o+l≤a.size):(a.extract o (o+l)).all isB8=true:=by
  rw[ext_bL hb hz]
  rw[Array.all_eq_true']
  intro v hv
  have hv:v ∈ Go.Ev.iv .u8 (bL a o l):=by simpa using hv
  obtain⟨x,hx,rfl⟩:=List.mem_map.1 hv
  obtain⟨j,hj,rfl⟩:=List.mem_map.1 hx
  have hj:j<l:=by simpa using hj
  have:=(hb j hj).2
  simp[isB8,this.1,this.2]
theorem at77 {N:List Int} {l c p:Nat} (hN:N.length=l) (hc:l+1≤c) (hp:p=l):(wA .u8 c (N ++ [77]))[p]? =some (.int .u8 77):=by
  subst hp
  rw[wA_at (by omega),getD_app,if_neg (by omega),hN,Nat.sub_self];rfl
theorem sh2_bt (N:List Int):∀ x ∈ sh2 N,0≤x∧x<256:=fun x hx=>by
  unfold sh2 oL2 at hx
  obtain⟨i,hi,rfl⟩:=List.mem_map.1 hx
  rw[IntKind.wrap_u8]
  omega
theorem sh5_bt (N:List Int):∀ x ∈ sh5 N,0≤x∧x<256:=fun x hx=>by
  unfold sh5 oL5 at hx
  obtain⟨i,hi,rfl⟩:=List.mem_map.1 hx
  rw[IntKind.wrap_u8]
  omega
end Go.Proofs.YtcfnjcacdmkgbaaDoor
