import Derived.Test.YtcfnjcacdmkgbaaDoorZMHmacMcP1
import Derived.Test.YtcfnjcacdmkgbaaDoorZMHmacSdS1
import Derived.Test.YtcfnjcacdmkgbaaDoorZMHmacEvW1
set_option linter.unusedSimpArgs false
set_option linter.unusedVariables false
/-! The document's HMAC: contracts; Extract; the same bytes with one more behind. -/
namespace Go.Proofs.YtcfnjcacdmkgbaaDoor
open Go.RowKit Go.Ev
variable {c0:Prop} {ch0:List (Option Value)}
theorem DH2_c (g0 g1 t1 t2:Tq) (a1 a2:Array Value) (b1 b2:Option Addr) (l1 c1 l2 c2:Nat) (hk:BytesOk [(wA .u32 64 kL2,g0),(wA .u64 80 kL5,g1),(a1,t1),(a2,t2)] b1 l1 c1) (ht:BytesOk [(wA .u32 64 kL2,g0),(wA .u64 80 kL5,g1),(a1,t1),(a2,t2)] b2 l2 c2) (hl:l1≤100000000∧l2≤100000000):Reads Tryd.prog 19 [(wA .u32 64 kL2,g0),(wA .u64 80 kL5,g1),(a1,t1),(a2,t2)] [.slice b1 l1 c1,.slice b2 l2 c2] (.agg (wA .u8 32 (hmac2 (bytesOf [(wA .u32 64 kL2,g0),(wA .u64 80 kL5,g1),(a1,t1),(a2,t2)] b1 l1) (bytesOf [(wA .u32 64 kL2,g0),(wA .u64 80 kL5,g1),(a1,t1),(a2,t2)] b2 l2)))) 2:=by
  refine reads_runs (fk:=2000004) (yty.enm (pDS2 :: pDS5 :: tabM3) [mMask] 2000004) Tryd.func19 (c:=bdy Tryd.f19) (by kernel_rfl) ⟨len4 _ _ _ _,by decide⟩ (args:= [.slice b1 l1 c1,.slice b2 l2 c2]) (by show(Go.Ev.okp 4 (.slice b1 l1 c1) && (Go.Ev.okp 4 (.slice b2 l2 c2) && true))=true;rw[show Go.Ev.okp 4 (.slice b1 l1 c1)=true from hk.okp,show Go.Ev.okp 4 (.slice b2 l2 c2)=true from ht.okp];rfl) (K:=fun e s=>e= .ret∧resS (yty.enm (pDS2 :: pDS5 :: tabM3) [mMask] 2000004) s Tryd.f19.results.toList=some [.agg (wA .u8 32 (hmac2 (bytesOf [(wA .u32 64 kL2,g0),(wA .u64 80 kL5,g1),(a1,t1),(a2,t2)] b1 l1) (bytesOf [(wA .u32 64 kL2,g0),(wA .u64 80 kL5,g1),(a1,t1),(a2,t2)] b2 l2)))]) ?_ (fun e s h=>⟨h.1,_,h.2,rfl⟩)
  generalize h1:bytesOf [(wA .u32 64 kL2,g0),(wA .u64 80 kL5,g1),(a1,t1),(a2,t2)] b1 l1=N1
  generalize h2:bytesOf [(wA .u32 64 kL2,g0),(wA .u64 80 kL5,g1),(a1,t1),(a2,t2)] b2 l2=N2
  refine(dh2u g0 g1 t1 t2 a1 a2 b1 b2 l1 c1 l2 c2 N1 N2 (fun _=>undef) hk h1 ht h2 hl).mono ?_
  rintro e s ⟨rfl,hh⟩
  obtain⟨n11,k11,tk2,n32,k32,X2,k13,n14,k14,k16,i17,p17,c917,Y17,j,c,ch,q1,q2,q3,q4,q5,q6,q7,q8,q9,q10,q11,q12,q13,q14,q15,rfl⟩:=hh
  rw[← q15]
  exact⟨rfl,by kernel_rfl⟩
def pDh2 : Entry Tryd.prog where
  f:=19
  ng:=2
  g := fun mem xs => match xs with
    | [.slice bp l cp, .slice bq m cq] => (match mem[0]?, mem[1]? with
      |some (x0,_),some (x1,_)=>some (.agg (wA .u8 32 (hmac2 (bytesOf mem bp l) (bytesOf mem bq m))),(x0=wA .u32 64 kL2∧x1=wA .u64 80 kL5∧BytesOk mem bp l cp∧BytesOk mem bq m cq∧l≤100000000∧m≤100000000))
      |_,_=>none)
    |_=>none
  ok := fun mem xs v c e hc w β hw hg => by
    split at e
    · rename_i bp l cp bq m cq
      split at e
      · rename_i x0 g0 x1 g1 h0 h1
        simp only[Option.some.injEq,Prod.mk.injEq] at e
        obtain⟨rfl,rfl⟩:=e
        obtain⟨rfl,rfl,hB,hC,hl,hm⟩:=hc
        refine lift2 (post:= []) rfl hB hC h0 h1 (fun y z q r h2 h3 h4 h5=> ?_) hw (hg 0 (by decide)) (hg 1 (by decide))
        rw[← h3,← h5]
        exact DH2_c g0 g1 y.2 z.2 y.1 z.1 q r l cp m cq h2 h4 ⟨hl,hm⟩
      · cases e
    · cases e
  call:=call_of Tryd.func19 (by kernel_rfl) (by kernel_rfl)
theorem DH5_c (g0 g1 t1 t2:Tq) (a1 a2:Array Value) (b1 b2:Option Addr) (l1 c1 l2 c2:Nat) (hk:BytesOk [(wA .u32 64 kL2,g0),(wA .u64 80 kL5,g1),(a1,t1),(a2,t2)] b1 l1 c1) (ht:BytesOk [(wA .u32 64 kL2,g0),(wA .u64 80 kL5,g1),(a1,t1),(a2,t2)] b2 l2 c2) (hl:l1≤100000000∧l2≤100000000):Reads Tryd.prog 20 [(wA .u32 64 kL2,g0),(wA .u64 80 kL5,g1),(a1,t1),(a2,t2)] [.slice b1 l1 c1,.slice b2 l2 c2] (.agg (wA .u8 64 (hmac5 (bytesOf [(wA .u32 64 kL2,g0),(wA .u64 80 kL5,g1),(a1,t1),(a2,t2)] b1 l1) (bytesOf [(wA .u32 64 kL2,g0),(wA .u64 80 kL5,g1),(a1,t1),(a2,t2)] b2 l2)))) 2:=by
  refine reads_runs (fk:=2000004) (yty.enm (pDS2 :: pDS5 :: tabM3) [mMask] 2000004) Tryd.func20 (c:=bdy Tryd.f20) (by kernel_rfl) ⟨len4 _ _ _ _,by decide⟩ (args:= [.slice b1 l1 c1,.slice b2 l2 c2]) (by show(Go.Ev.okp 4 (.slice b1 l1 c1) && (Go.Ev.okp 4 (.slice b2 l2 c2) && true))=true;rw[show Go.Ev.okp 4 (.slice b1 l1 c1)=true from hk.okp,show Go.Ev.okp 4 (.slice b2 l2 c2)=true from ht.okp];rfl) (K:=fun e s=>e= .ret∧resS (yty.enm (pDS2 :: pDS5 :: tabM3) [mMask] 2000004) s Tryd.f20.results.toList=some [.agg (wA .u8 64 (hmac5 (bytesOf [(wA .u32 64 kL2,g0),(wA .u64 80 kL5,g1),(a1,t1),(a2,t2)] b1 l1) (bytesOf [(wA .u32 64 kL2,g0),(wA .u64 80 kL5,g1),(a1,t1),(a2,t2)] b2 l2)))]) ?_ (fun e s h=>⟨h.1,_,h.2,rfl⟩)
  generalize h1:bytesOf [(wA .u32 64 kL2,g0),(wA .u64 80 kL5,g1),(a1,t1),(a2,t2)] b1 l1=N1
  generalize h2:bytesOf [(wA .u32 64 kL2,g0),(wA .u64 80 kL5,g1),(a1,t1),(a2,t2)] b2 l2=N2
  refine(dh5u g0 g1 t1 t2 a1 a2 b1 b2 l1 c1 l2 c2 N1 N2 (fun _=>undef) hk h1 ht h2 hl).mono ?_
  rintro e s ⟨rfl,hh⟩
  obtain⟨n11,k11,tk2,n32,k32,X2,k13,n14,k14,k16,i17,p17,c917,Y17,j,c,ch,q1,q2,q3,q4,q5,q6,q7,q8,q9,q10,q11,q12,q13,q14,q15,rfl⟩:=hh
  rw[← q15]
  exact⟨rfl,by kernel_rfl⟩
def pDh5 : Entry Tryd.prog where
  f:=20
  ng:=2
  g := fun mem xs => match xs with
    | [.slice bp l cp, .slice bq m cq] => (match mem[0]?, mem[1]? with
      |some (x0,_),some (x1,_)=>some (.agg (wA .u8 64 (hmac5 (bytesOf mem bp l) (bytesOf mem bq m))),(x0=wA .u32 64 kL2∧x1=wA .u64 80 kL5∧BytesOk mem bp l cp∧BytesOk mem bq m cq∧l≤100000000∧m≤100000000))
      |_,_=>none)
    |_=>none
  ok := fun mem xs v c e hc w β hw hg => by
    split at e
    · rename_i bp l cp bq m cq
      split at e
      · rename_i x0 g0 x1 g1 h0 h1
        simp only[Option.some.injEq,Prod.mk.injEq] at e
        obtain⟨rfl,rfl⟩:=e
        obtain⟨rfl,rfl,hB,hC,hl,hm⟩:=hc
        refine lift2 (post:= []) rfl hB hC h0 h1 (fun y z q r h2 h3 h4 h5=> ?_) hw (hg 0 (by decide)) (hg 1 (by decide))
        rw[← h3,← h5]
        exact DH5_c g0 g1 y.2 z.2 y.1 z.1 q r l cp m cq h2 h4 ⟨hl,hm⟩
      · cases e
    · cases e
  call:=call_of Tryd.func20 (by kernel_rfl) (by kernel_rfl)
def tabM4:List (Entry Tryd.prog):=pDh2 :: pDh5 :: tabM3
def exA_h (i:Nat):Hn:=⟨0,[],[],[],[]⟩
abbrev exA_R (w:List Nat) (S:FS) (e:Exit) (K:FS→Prop):Prop:=Rn Tryd.prog (cAt w (bdy Tryd.f17)) S e K 2000004
structure exA_c (g0 g1 t1 t2:Tq) (a1 a2:Array Value) (b1 b2:Option Addr) (l1 c1 l2 c2:Nat) (N1 N2:List Int):Prop where
  hk:BytesOk [(wA .u32 64 kL2,g0),(wA .u64 80 kL5,g1),(a1,t1),(a2,t2)] b1 l1 c1
  hN1:bytesOf [(wA .u32 64 kL2,g0),(wA .u64 80 kL5,g1),(a1,t1),(a2,t2)] b1 l1=N1
  ht:BytesOk [(wA .u32 64 kL2,g0),(wA .u64 80 kL5,g1),(a1,t1),(a2,t2)] b2 l2 c2
  hN2:bytesOf [(wA .u32 64 kL2,g0),(wA .u64 80 kL5,g1),(a1,t1),(a2,t2)] b2 l2=N2
  hl:l1≤100000000∧l2≤100000000
variable {g0 g1 t1 t2:Tq} {a1 a2:Array Value} {b1 b2:Option Addr} {l1 c1 l2 c2:Nat} {N1 N2:List Int} {k_1:exA_c g0 g1 t1 t2 a1 a2 b1 b2 l1 c1 l2 c2 N1 N2}
abbrev exA (_:exA_c g0 g1 t1 t2 a1 a2 b1 b2 l1 c1 l2 c2 N1 N2):FS:=⟨true,8,[(0,.slice b1 l1 c1),(1,.slice b2 l2 c2)],[((wA .u32 64 kL2),g0),((wA .u64 80 kL5),g1),(a1,t1),(a2,t2)]⟩
abbrev exB (_:exA_c g0 g1 t1 t2 a1 a2 b1 b2 l1 c1 l2 c2 N1 N2):FS:=⟨false,8,[(0,.slice b1 l1 c1),(1,.slice b2 l2 c2),(4,.pointer (some ⟨4,0,none⟩))],[((wA .u32 64 kL2),g0),((wA .u64 80 kL5),g1),(a1,t1),(a2,t2),((wA .u8 32 []),(25,(0,0)))]⟩
theorem ex0:exA_R [0] (exA k_1) .normal (fun z_=>z_=exB k_1):=rn_ev (yty.enm tabM4 [mMask] 2000004) exA_h mixed _ none [] [] 0 (fun j M=>by kernel_rfl) A0 rfl
structure exC_c (_:exA_c g0 g1 t1 t2 a1 a2 b1 b2 l1 c1 l2 c2 N1 N2) (Z:List Int):Prop where
  hZ:Z=hmac2 N1 N2
variable {Z:List Int} {k_2:exC_c k_1 Z}
abbrev exC (_:exC_c k_1 Z):FS:=⟨false,8,[(4,.pointer (some ⟨4,0,none⟩))],[((wA .u32 64 kL2),g0),((wA .u64 80 kL5),g1),(a1,t1),(a2,t2),((wA .u8 32 Z),(25,(0,0)))]⟩
theorem ex1:exA_R [1] (exB k_1) .ret (fun z_=>∃(k_2:exC_c k_1 (hmac2 (bytesOf ([(wA .u32 64 kL2,g0),(wA .u64 80 kL5,g1),(a1,t1),(a2,t2)] ++ [(wA .u8 32 [],25,(0,0))]) b1 l1) (bytesOf ([(wA .u32 64 kL2,g0),(wA .u64 80 kL5,g1),(a1,t1),(a2,t2)] ++ [(wA .u8 32 [],25,(0,0))]) b2 l2))),z_=exC k_2):=by
  have⟨hk,hN1,ht,hN2,hl⟩:=id k_1
  exact rn_ev (yty.enm tabM4 [mMask] 2000004) exA_h mixed _ none [] [(4,((wA .u32 64 kL2)=wA .u32 64 kL2∧(wA .u64 80 kL5)=wA .u64 80 kL5∧BytesOk [((wA .u32 64 kL2),g0),((wA .u64 80 kL5),g1),(a1,t1),(a2,t2),((wA .u8 32 []),(25,(0,0)))] b1 l1 c1∧BytesOk [((wA .u32 64 kL2),g0),((wA .u64 80 kL5),g1),(a1,t1),(a2,t2),((wA .u8 32 []),(25,(0,0)))] b2 l2 c2∧l1≤100000000∧l2≤100000000)),(0,((wA .u8 32 (hmac2 (bytesOf [((wA .u32 64 kL2),g0),((wA .u64 80 kL5),g1),(a1,t1),(a2,t2),((wA .u8 32 []),(25,(0,0)))] b1 l1) (bytesOf [((wA .u32 64 kL2),g0),((wA .u64 80 kL5),g1),(a1,t1),(a2,t2),((wA .u8 32 []),(25,(0,0)))] b2 l2))).all (fun v=>v.oneCell')=true))] 0 (fun j M=>by kernel_rfl) (A1 ⟨rfl,rfl,(hk.app (x:= [_])).1,(ht.app (x:= [_])).1,hl.1,hl.2⟩ (A1 (wA_one _ _ _) A0)) ⟨⟨by rw[(hk.app (x:= [_])).2,(ht.app (x:= [_])).2,hN1,hN2]⟩,rfl⟩
theorem exu':exA_R [] (exA k_1) .ret (fun z_=>∃(k_2:exC_c k_1 (hmac2 (bytesOf ([(wA .u32 64 kL2,g0),(wA .u64 80 kL5,g1),(a1,t1),(a2,t2)] ++ [(wA .u8 32 [],25,(0,0))]) b1 l1) (bytesOf ([(wA .u32 64 kL2,g0),(wA .u64 80 kL5,g1),(a1,t1),(a2,t2)] ++ [(wA .u8 32 [],25,(0,0))]) b2 l2))),z_=exC k_2):=by
  refine rn_seq (w:= []) (by kernel_rfl) ex0 ?_
  rintro _ rfl
  exact ex1
abbrev exA_s (g0 g1 t1 t2:Tq) (a1 a2:Array Value) (b1 b2:Option Addr) (l1 c1 l2 c2:Nat) (N1 N2:List Int) (j:Nat→Value):List Value:=([.slice b1 l1 c1,.slice b2 l2 c2] ++ (JU 6))
abbrev exA_m (g0 g1 t1 t2:Tq) (a1 a2:Array Value) (b1 b2:Option Addr) (l1 c1 l2 c2:Nat) (N1 N2:List Int):List Mb:= [((wA .u32 64 kL2),g0),((wA .u64 80 kL5),g1),(a1,t1),(a2,t2)]
abbrev exC_s (g0 g1 t1 t2:Tq) (a1 a2:Array Value) (b1 b2:Option Addr) (l1 c1 l2 c2:Nat) (N1 N2:List Int) (Z:List Int) (j:Nat→Value):List Value:=(J j 0 4 ++ ([.pointer (some ⟨4,0,none⟩)] ++ (J j 5 3)))
abbrev exC_m (g0 g1 t1 t2:Tq) (a1 a2:Array Value) (b1 b2:Option Addr) (l1 c1 l2 c2:Nat) (N1 N2:List Int) (Z:List Int):List Mb:= [((wA .u32 64 kL2),g0),((wA .u64 80 kL5),g1),(a1,t1),(a2,t2),((wA .u8 32 Z),(25,(0,0)))]
theorem exu (g0 g1 t1 t2:Tq) (a1 a2:Array Value) (b1 b2:Option Addr) (l1 c1 l2 c2:Nat) (N1 N2:List Int) (j:Nat→Value) (hk:BytesOk [(wA .u32 64 kL2,g0),(wA .u64 80 kL5,g1),(a1,t1),(a2,t2)] b1 l1 c1) (hN1:bytesOf [(wA .u32 64 kL2,g0),(wA .u64 80 kL5,g1),(a1,t1),(a2,t2)] b1 l1=N1) (ht:BytesOk [(wA .u32 64 kL2,g0),(wA .u64 80 kL5,g1),(a1,t1),(a2,t2)] b2 l2 c2) (hN2:bytesOf [(wA .u32 64 kL2,g0),(wA .u64 80 kL5,g1),(a1,t1),(a2,t2)] b2 l2=N2) (hl:l1≤100000000∧l2≤100000000)  :Runs Tryd.prog (cAt [] (bdy Tryd.f17)) ⟨exA_s g0 g1 t1 t2 a1 a2 b1 b2 l1 c1 l2 c2 N1 N2 j,exA_m g0 g1 t1 t2 a1 a2 b1 b2 l1 c1 l2 c2 N1 N2,c0,ch0⟩ (fun e s=>e= .ret∧∃j c ch,((hmac2 (bytesOf ([(wA .u32 64 kL2,g0),(wA .u64 80 kL5,g1),(a1,t1),(a2,t2)] ++ [(wA .u8 32 [],25,(0,0))]) b1 l1) (bytesOf ([(wA .u32 64 kL2,g0),(wA .u64 80 kL5,g1),(a1,t1),(a2,t2)] ++ [(wA .u8 32 [],25,(0,0))]) b2 l2))=hmac2 N1 N2)∧s=⟨exC_s g0 g1 t1 t2 a1 a2 b1 b2 l1 c1 l2 c2 N1 N2 (hmac2 (bytesOf ([(wA .u32 64 kL2,g0),(wA .u64 80 kL5,g1),(a1,t1),(a2,t2)] ++ [(wA .u8 32 [],25,(0,0))]) b1 l1) (bytesOf ([(wA .u32 64 kL2,g0),(wA .u64 80 kL5,g1),(a1,t1),(a2,t2)] ++ [(wA .u8 32 [],25,(0,0))]) b2 l2)) j,exC_m g0 g1 t1 t2 a1 a2 b1 b2 l1 c1 l2 c2 N1 N2 (hmac2 (bytesOf ([(wA .u32 64 kL2,g0),(wA .u64 80 kL5,g1),(a1,t1),(a2,t2)] ++ [(wA .u8 32 [],25,(0,0))]) b1 l1) (bytesOf ([(wA .u32 64 kL2,g0),(wA .u64 80 kL5,g1),(a1,t1),(a2,t2)] ++ [(wA .u8 32 [],25,(0,0))]) b2 l2)),c,ch⟩) 2000004:=by
  refine(Rn.old (exu' (k_1:=(⟨hk,hN1,ht,hN2,hl⟩:exA_c g0 g1 t1 t2 a1 a2 b1 b2 l1 c1 l2 c2 N1 N2))) j (by kernel_rfl)).mono ?_
  rintro e s ⟨rfl,_,⟨k_2,rfl⟩,j,c,ch,rfl⟩
  have⟨x_hZ⟩:=k_2
  exact⟨rfl,j,c,ch,x_hZ,by kernel_rfl⟩
theorem Ex_c (g0 g1 t1 t2:Tq) (a1 a2:Array Value) (b1 b2:Option Addr) (l1 c1 l2 c2:Nat) (hk:BytesOk [(wA .u32 64 kL2,g0),(wA .u64 80 kL5,g1),(a1,t1),(a2,t2)] b1 l1 c1) (ht:BytesOk [(wA .u32 64 kL2,g0),(wA .u64 80 kL5,g1),(a1,t1),(a2,t2)] b2 l2 c2) (hl:l1≤100000000∧l2≤100000000):Reads Tryd.prog 17 [(wA .u32 64 kL2,g0),(wA .u64 80 kL5,g1),(a1,t1),(a2,t2)] [.slice b1 l1 c1,.slice b2 l2 c2] (.agg (wA .u8 32 (hmac2 (bytesOf [(wA .u32 64 kL2,g0),(wA .u64 80 kL5,g1),(a1,t1),(a2,t2)] b1 l1) (bytesOf [(wA .u32 64 kL2,g0),(wA .u64 80 kL5,g1),(a1,t1),(a2,t2)] b2 l2)))) 2:=by
  refine reads_runs (fk:=2000004) (yty.enm tabM4 [mMask] 2000004) Tryd.func17 (c:=bdy Tryd.f17) (by kernel_rfl) ⟨len4 _ _ _ _,by decide⟩ (args:= [.slice b1 l1 c1,.slice b2 l2 c2]) (by show(Go.Ev.okp 4 (.slice b1 l1 c1) && (Go.Ev.okp 4 (.slice b2 l2 c2) && true))=true;rw[show Go.Ev.okp 4 (.slice b1 l1 c1)=true from hk.okp,show Go.Ev.okp 4 (.slice b2 l2 c2)=true from ht.okp];rfl) (K:=fun e s=>e= .ret∧resS (yty.enm tabM4 [mMask] 2000004) s Tryd.f17.results.toList=some [.agg (wA .u8 32 (hmac2 (bytesOf [(wA .u32 64 kL2,g0),(wA .u64 80 kL5,g1),(a1,t1),(a2,t2)] b1 l1) (bytesOf [(wA .u32 64 kL2,g0),(wA .u64 80 kL5,g1),(a1,t1),(a2,t2)] b2 l2)))]) ?_ (fun e s h=>⟨h.1,_,h.2,rfl⟩)
  generalize h1:bytesOf [(wA .u32 64 kL2,g0),(wA .u64 80 kL5,g1),(a1,t1),(a2,t2)] b1 l1=N1
  generalize h2:bytesOf [(wA .u32 64 kL2,g0),(wA .u64 80 kL5,g1),(a1,t1),(a2,t2)] b2 l2=N2
  refine(exu g0 g1 t1 t2 a1 a2 b1 b2 l1 c1 l2 c2 N1 N2 (fun _=>undef) hk h1 ht h2 hl).mono ?_
  rintro e s ⟨rfl,hh⟩
  obtain⟨j,c,ch,hZ,rfl⟩:=hh
  rw[← hZ]
  exact⟨rfl,by kernel_rfl⟩
def pEx : Entry Tryd.prog where
  f:=17
  ng:=2
  g := fun mem xs => match xs with
    | [.slice bp l cp, .slice bq m cq] => (match mem[0]?, mem[1]? with
      |some (x0,_),some (x1,_)=>some (.agg (wA .u8 32 (hmac2 (bytesOf mem bp l) (bytesOf mem bq m))),(x0=wA .u32 64 kL2∧x1=wA .u64 80 kL5∧BytesOk mem bp l cp∧BytesOk mem bq m cq∧l≤100000000∧m≤100000000))
      |_,_=>none)
    |_=>none
  ok := fun mem xs v c e hc w β hw hg => by
    split at e
    · rename_i bp l cp bq m cq
      split at e
      · rename_i x0 g0 x1 g1 h0 h1
        simp only[Option.some.injEq,Prod.mk.injEq] at e
        obtain⟨rfl,rfl⟩:=e
        obtain⟨rfl,rfl,hB,hC,hl,hm⟩:=hc
        refine lift2 (post:= []) rfl hB hC h0 h1 (fun y z q r h2 h3 h4 h5=> ?_) hw (hg 0 (by decide)) (hg 1 (by decide))
        rw[← h3,← h5]
        exact Ex_c g0 g1 y.2 z.2 y.1 z.1 q r l cp m cq h2 h4 ⟨hl,hm⟩
      · cases e
    · cases e
  call:=call_of Tryd.func17 (by kernel_rfl) (by kernel_rfl)
def dxA_h (i:Nat):Hn:=⟨0,[],[],[],[]⟩
abbrev dxA_R (w:List Nat) (S:FS) (e:Exit) (K:FS→Prop):Prop:=Rn Tryd.prog (cAt w (bdy Tryd.f21)) S e K 2000004
structure dxA_c (g0 g1 t1 t2:Tq) (a1 a2:Array Value) (b1 b2:Option Addr) (l1 c1 l2 c2:Nat) (N1 N2:List Int):Prop where
  hk:BytesOk [(wA .u32 64 kL2,g0),(wA .u64 80 kL5,g1),(a1,t1),(a2,t2)] b1 l1 c1
  hN1:bytesOf [(wA .u32 64 kL2,g0),(wA .u64 80 kL5,g1),(a1,t1),(a2,t2)] b1 l1=N1
  ht:BytesOk [(wA .u32 64 kL2,g0),(wA .u64 80 kL5,g1),(a1,t1),(a2,t2)] b2 l2 c2
  hN2:bytesOf [(wA .u32 64 kL2,g0),(wA .u64 80 kL5,g1),(a1,t1),(a2,t2)] b2 l2=N2
  hl:l1≤100000000∧l2≤100000000
variable {k_3:dxA_c g0 g1 t1 t2 a1 a2 b1 b2 l1 c1 l2 c2 N1 N2}
abbrev dxA (_:dxA_c g0 g1 t1 t2 a1 a2 b1 b2 l1 c1 l2 c2 N1 N2):FS:=⟨true,8,[(0,.slice b1 l1 c1),(1,.slice b2 l2 c2)],[((wA .u32 64 kL2),g0),((wA .u64 80 kL5),g1),(a1,t1),(a2,t2)]⟩
abbrev dxB (_:dxA_c g0 g1 t1 t2 a1 a2 b1 b2 l1 c1 l2 c2 N1 N2):FS:=⟨false,8,[(0,.slice b1 l1 c1),(1,.slice b2 l2 c2),(4,.pointer (some ⟨4,0,none⟩))],[((wA .u32 64 kL2),g0),((wA .u64 80 kL5),g1),(a1,t1),(a2,t2),((wA .u8 32 []),(25,(0,0)))]⟩
theorem dx0:dxA_R [0] (dxA k_3) .normal (fun z_=>z_=dxB k_3):=rn_ev (yty.enm tabM4 [mMask] 2000004) dxA_h mixed _ none [] [] 0 (fun j M=>by kernel_rfl) A0 rfl
structure dxC_c (_:dxA_c g0 g1 t1 t2 a1 a2 b1 b2 l1 c1 l2 c2 N1 N2) (Z:List Int):Prop where
  hZ:Z=hmac2 N1 N2
variable {k_4:dxC_c k_3 Z}
abbrev dxC (_:dxC_c k_3 Z):FS:=⟨false,8,[(4,.pointer (some ⟨4,0,none⟩))],[((wA .u32 64 kL2),g0),((wA .u64 80 kL5),g1),(a1,t1),(a2,t2),((wA .u8 32 Z),(25,(0,0)))]⟩
theorem dx1:dxA_R [1] (dxB k_3) .ret (fun z_=>∃(k_4:dxC_c k_3 (hmac2 (bytesOf ([(wA .u32 64 kL2,g0),(wA .u64 80 kL5,g1),(a1,t1),(a2,t2)] ++ [(wA .u8 32 [],25,(0,0))]) b1 l1) (bytesOf ([(wA .u32 64 kL2,g0),(wA .u64 80 kL5,g1),(a1,t1),(a2,t2)] ++ [(wA .u8 32 [],25,(0,0))]) b2 l2))),z_=dxC k_4):=by
  have⟨hk,hN1,ht,hN2,hl⟩:=id k_3
  exact rn_ev (yty.enm tabM4 [mMask] 2000004) dxA_h mixed _ none [] [(4,((wA .u32 64 kL2)=wA .u32 64 kL2∧(wA .u64 80 kL5)=wA .u64 80 kL5∧BytesOk [((wA .u32 64 kL2),g0),((wA .u64 80 kL5),g1),(a1,t1),(a2,t2),((wA .u8 32 []),(25,(0,0)))] b1 l1 c1∧BytesOk [((wA .u32 64 kL2),g0),((wA .u64 80 kL5),g1),(a1,t1),(a2,t2),((wA .u8 32 []),(25,(0,0)))] b2 l2 c2∧l1≤100000000∧l2≤100000000)),(0,((wA .u8 32 (hmac2 (bytesOf [((wA .u32 64 kL2),g0),((wA .u64 80 kL5),g1),(a1,t1),(a2,t2),((wA .u8 32 []),(25,(0,0)))] b1 l1) (bytesOf [((wA .u32 64 kL2),g0),((wA .u64 80 kL5),g1),(a1,t1),(a2,t2),((wA .u8 32 []),(25,(0,0)))] b2 l2))).all (fun v=>v.oneCell')=true))] 0 (fun j M=>by kernel_rfl) (A1 ⟨rfl,rfl,(hk.app (x:= [_])).1,(ht.app (x:= [_])).1,hl.1,hl.2⟩ (A1 (wA_one _ _ _) A0)) ⟨⟨by rw[(hk.app (x:= [_])).2,(ht.app (x:= [_])).2,hN1,hN2]⟩,rfl⟩
theorem dxu':dxA_R [] (dxA k_3) .ret (fun z_=>∃(k_4:dxC_c k_3 (hmac2 (bytesOf ([(wA .u32 64 kL2,g0),(wA .u64 80 kL5,g1),(a1,t1),(a2,t2)] ++ [(wA .u8 32 [],25,(0,0))]) b1 l1) (bytesOf ([(wA .u32 64 kL2,g0),(wA .u64 80 kL5,g1),(a1,t1),(a2,t2)] ++ [(wA .u8 32 [],25,(0,0))]) b2 l2))),z_=dxC k_4):=by
  refine rn_seq (w:= []) (by kernel_rfl) dx0 ?_
  rintro _ rfl
  exact dx1
abbrev dxA_s (g0 g1 t1 t2:Tq) (a1 a2:Array Value) (b1 b2:Option Addr) (l1 c1 l2 c2:Nat) (N1 N2:List Int) (j:Nat→Value):List Value:=([.slice b1 l1 c1,.slice b2 l2 c2] ++ (JU 6))
abbrev dxA_m (g0 g1 t1 t2:Tq) (a1 a2:Array Value) (b1 b2:Option Addr) (l1 c1 l2 c2:Nat) (N1 N2:List Int):List Mb:= [((wA .u32 64 kL2),g0),((wA .u64 80 kL5),g1),(a1,t1),(a2,t2)]
abbrev dxC_s (g0 g1 t1 t2:Tq) (a1 a2:Array Value) (b1 b2:Option Addr) (l1 c1 l2 c2:Nat) (N1 N2:List Int) (Z:List Int) (j:Nat→Value):List Value:=(J j 0 4 ++ ([.pointer (some ⟨4,0,none⟩)] ++ (J j 5 3)))
abbrev dxC_m (g0 g1 t1 t2:Tq) (a1 a2:Array Value) (b1 b2:Option Addr) (l1 c1 l2 c2:Nat) (N1 N2:List Int) (Z:List Int):List Mb:= [((wA .u32 64 kL2),g0),((wA .u64 80 kL5),g1),(a1,t1),(a2,t2),((wA .u8 32 Z),(25,(0,0)))]
theorem dxu (g0 g1 t1 t2:Tq) (a1 a2:Array Value) (b1 b2:Option Addr) (l1 c1 l2 c2:Nat) (N1 N2:List Int) (j:Nat→Value) (hk:BytesOk [(wA .u32 64 kL2,g0),(wA .u64 80 kL5,g1),(a1,t1),(a2,t2)] b1 l1 c1) (hN1:bytesOf [(wA .u32 64 kL2,g0),(wA .u64 80 kL5,g1),(a1,t1),(a2,t2)] b1 l1=N1) (ht:BytesOk [(wA .u32 64 kL2,g0),(wA .u64 80 kL5,g1),(a1,t1),(a2,t2)] b2 l2 c2) (hN2:bytesOf [(wA .u32 64 kL2,g0),(wA .u64 80 kL5,g1),(a1,t1),(a2,t2)] b2 l2=N2) (hl:l1≤100000000∧l2≤100000000)  :Runs Tryd.prog (cAt [] (bdy Tryd.f21)) ⟨dxA_s g0 g1 t1 t2 a1 a2 b1 b2 l1 c1 l2 c2 N1 N2 j,dxA_m g0 g1 t1 t2 a1 a2 b1 b2 l1 c1 l2 c2 N1 N2,c0,ch0⟩ (fun e s=>e= .ret∧∃j c ch,((hmac2 (bytesOf ([(wA .u32 64 kL2,g0),(wA .u64 80 kL5,g1),(a1,t1),(a2,t2)] ++ [(wA .u8 32 [],25,(0,0))]) b1 l1) (bytesOf ([(wA .u32 64 kL2,g0),(wA .u64 80 kL5,g1),(a1,t1),(a2,t2)] ++ [(wA .u8 32 [],25,(0,0))]) b2 l2))=hmac2 N1 N2)∧s=⟨dxC_s g0 g1 t1 t2 a1 a2 b1 b2 l1 c1 l2 c2 N1 N2 (hmac2 (bytesOf ([(wA .u32 64 kL2,g0),(wA .u64 80 kL5,g1),(a1,t1),(a2,t2)] ++ [(wA .u8 32 [],25,(0,0))]) b1 l1) (bytesOf ([(wA .u32 64 kL2,g0),(wA .u64 80 kL5,g1),(a1,t1),(a2,t2)] ++ [(wA .u8 32 [],25,(0,0))]) b2 l2)) j,dxC_m g0 g1 t1 t2 a1 a2 b1 b2 l1 c1 l2 c2 N1 N2 (hmac2 (bytesOf ([(wA .u32 64 kL2,g0),(wA .u64 80 kL5,g1),(a1,t1),(a2,t2)] ++ [(wA .u8 32 [],25,(0,0))]) b1 l1) (bytesOf ([(wA .u32 64 kL2,g0),(wA .u64 80 kL5,g1),(a1,t1),(a2,t2)] ++ [(wA .u8 32 [],25,(0,0))]) b2 l2)),c,ch⟩) 2000004:=by
  refine(Rn.old (dxu' (k_3:=(⟨hk,hN1,ht,hN2,hl⟩:dxA_c g0 g1 t1 t2 a1 a2 b1 b2 l1 c1 l2 c2 N1 N2))) j (by kernel_rfl)).mono ?_
  rintro e s ⟨rfl,_,⟨k_4,rfl⟩,j,c,ch,rfl⟩
  have⟨x_hZ⟩:=k_4
  exact⟨rfl,j,c,ch,x_hZ,by kernel_rfl⟩
theorem DX_c (g0 g1 t1 t2:Tq) (a1 a2:Array Value) (b1 b2:Option Addr) (l1 c1 l2 c2:Nat) (hk:BytesOk [(wA .u32 64 kL2,g0),(wA .u64 80 kL5,g1),(a1,t1),(a2,t2)] b1 l1 c1) (ht:BytesOk [(wA .u32 64 kL2,g0),(wA .u64 80 kL5,g1),(a1,t1),(a2,t2)] b2 l2 c2) (hl:l1≤100000000∧l2≤100000000):Reads Tryd.prog 21 [(wA .u32 64 kL2,g0),(wA .u64 80 kL5,g1),(a1,t1),(a2,t2)] [.slice b1 l1 c1,.slice b2 l2 c2] (.agg (wA .u8 32 (hmac2 (bytesOf [(wA .u32 64 kL2,g0),(wA .u64 80 kL5,g1),(a1,t1),(a2,t2)] b1 l1) (bytesOf [(wA .u32 64 kL2,g0),(wA .u64 80 kL5,g1),(a1,t1),(a2,t2)] b2 l2)))) 2:=by
  refine reads_runs (fk:=2000004) (yty.enm tabM4 [mMask] 2000004) Tryd.func21 (c:=bdy Tryd.f21) (by kernel_rfl) ⟨len4 _ _ _ _,by decide⟩ (args:= [.slice b1 l1 c1,.slice b2 l2 c2]) (by show(Go.Ev.okp 4 (.slice b1 l1 c1) && (Go.Ev.okp 4 (.slice b2 l2 c2) && true))=true;rw[show Go.Ev.okp 4 (.slice b1 l1 c1)=true from hk.okp,show Go.Ev.okp 4 (.slice b2 l2 c2)=true from ht.okp];rfl) (K:=fun e s=>e= .ret∧resS (yty.enm tabM4 [mMask] 2000004) s Tryd.f21.results.toList=some [.agg (wA .u8 32 (hmac2 (bytesOf [(wA .u32 64 kL2,g0),(wA .u64 80 kL5,g1),(a1,t1),(a2,t2)] b1 l1) (bytesOf [(wA .u32 64 kL2,g0),(wA .u64 80 kL5,g1),(a1,t1),(a2,t2)] b2 l2)))]) ?_ (fun e s h=>⟨h.1,_,h.2,rfl⟩)
  generalize h1:bytesOf [(wA .u32 64 kL2,g0),(wA .u64 80 kL5,g1),(a1,t1),(a2,t2)] b1 l1=N1
  generalize h2:bytesOf [(wA .u32 64 kL2,g0),(wA .u64 80 kL5,g1),(a1,t1),(a2,t2)] b2 l2=N2
  refine(dxu g0 g1 t1 t2 a1 a2 b1 b2 l1 c1 l2 c2 N1 N2 (fun _=>undef) hk h1 ht h2 hl).mono ?_
  rintro e s ⟨rfl,hh⟩
  obtain⟨j,c,ch,hZ,rfl⟩:=hh
  rw[← hZ]
  exact⟨rfl,by kernel_rfl⟩
def pDx : Entry Tryd.prog where
  f:=21
  ng:=2
  g := fun mem xs => match xs with
    | [.slice bp l cp, .slice bq m cq] => (match mem[0]?, mem[1]? with
      |some (x0,_),some (x1,_)=>some (.agg (wA .u8 32 (hmac2 (bytesOf mem bp l) (bytesOf mem bq m))),(x0=wA .u32 64 kL2∧x1=wA .u64 80 kL5∧BytesOk mem bp l cp∧BytesOk mem bq m cq∧l≤100000000∧m≤100000000))
      |_,_=>none)
    |_=>none
  ok := fun mem xs v c e hc w β hw hg => by
    split at e
    · rename_i bp l cp bq m cq
      split at e
      · rename_i x0 g0 x1 g1 h0 h1
        simp only[Option.some.injEq,Prod.mk.injEq] at e
        obtain⟨rfl,rfl⟩:=e
        obtain⟨rfl,rfl,hB,hC,hl,hm⟩:=hc
        refine lift2 (post:= []) rfl hB hC h0 h1 (fun y z q r h2 h3 h4 h5=> ?_) hw (hg 0 (by decide)) (hg 1 (by decide))
        rw[← h3,← h5]
        exact DX_c g0 g1 y.2 z.2 y.1 z.1 q r l cp m cq h2 h4 ⟨hl,hm⟩
      · cases e
    · cases e
  call:=call_of Tryd.func21 (by kernel_rfl) (by kernel_rfl)
def le7sA_h (i:Nat):Hn:=⟨0,[],[],[],[]⟩
abbrev le7sA_R (w:List Nat) (S:FS) (e:Exit) (K:FS→Prop):Prop:=Rn Tryd.prog (cAt w (bdy Tryd.f14)) S e K 1
structure le7sA_c (a:Array Value) (t:Tq) (o l cp:Nat) (N:List Int):Prop where
  hu:SrcOk .u8 [(a,t)] (.slice (some ⟨0,o,none⟩) l cp) N
  hN:N.length=l
  hl:l≤1000000000
variable {a:Array Value} {t:Tq} {o l cp:Nat} {N:List Int} {k_1:le7sA_c a t o l cp N}
abbrev le7sA (_:le7sA_c a t o l cp N):FS:=⟨true,11,[(0,.slice (some ⟨0,o,none⟩) l cp)],[(a,t)]⟩
abbrev le7sB (_:le7sA_c a t o l cp N):FS:=⟨false,11,[(0,.slice (some ⟨0,o,none⟩) l cp)],[(a,t)]⟩
theorem le7s0:le7sA_R [0] (le7sA k_1) .normal (fun z_=>z_=le7sB k_1):=rn_ev (yty.enf tab0 1) le7sA_h mixed _ none [] [] 1 (fun j M=>by kernel_rfl) A0 rfl
structure le7sC_c (_:le7sA_c a t o l cp N) (k2:Nat):Prop where
  hk:l+1≤k2
variable {k2:Nat} {k_2:le7sC_c k_1 k2}
abbrev le7sC (_:le7sC_c k_1 k2):FS:=⟨false,11,[(2,.slice (some ⟨1,(if k2=0 then 0 else 0+0*1),none⟩) l k2)],[(a,t),((wA .u8 k2 (N ++ [77])),(5,(0,0))),((wA .u8 1 [77]),(5,(0,0)))]⟩
theorem le7s1:le7sA_R [1,0] (le7sB k_1) .normal (fun z_=>∃(k2:Nat) (k_2:le7sC_c k_1 k2),z_=le7sC k_2):=by
  have⟨hu,hN,hl⟩:=id k_1
  refine rn_reg none (by kernel_rfl) fun j c0 ch0=> ?_
  refine rl_app (yty.enf tab0 1) apB apB.ht 2 [] [] 1 [(a,t),((wA .u8 0 []),(5,(0,0)))] 1 0 0 ([]:List Int) N (.slice (some ⟨0,o,none⟩) l cp) (some 5) (by kernel_rfl) A0 rfl (by simp) (SrcOk.app (x:= [_]) hu) (by simp only[List.length_nil];omega) fun n1 k1 M1 c1_ e1_ hn1 hk1=> ?_
  try simp only[zL] at hn1
  refine rl_app (yty.enf tab0 1) apB apB.ht 1 [] [] 0 [(a,t),((wA .u8 k1 (([]:List Int) ++ N)),(5,(0,0))),((wA .u8 1 [77]),(5,(0,0)))] 1 n1 k1 N ([77]:List Int) (.slice (some ⟨2,0,none⟩) 1 1) (some 7) (by kernel_rfl) A0 (by omega) (by omega) (src_wA (i:=2) rfl rfl (by decide)) (by simp only[List.length_cons,List.length_nil];omega) fun n2 k2 M2 c2_ e2_ hn2 hk2=> ?_
  try simp only[zL] at hn2
  exact rl_end (E:=(yty.enf tab0 1)) _ [] [(4,((True∧(0≤(l:Int)))∧0≤l∧l≤k2))] 1 (fun M=>by kernel_rfl) (A1 (by refine⟨⟨?_,?_⟩,?_,?_⟩<;>first|trivial|omega) A0) ⟨k2,⟨by omega⟩,rfl⟩
theorem le7s2:le7sA_R [1,1] (le7sC k_2) .ret (fun z_=>z_=le7sC k_2):=rn_ev (yty.enf tab0 1) le7sA_h mixed _ none [] [] 0 (fun j M=>by kernel_rfl) A0 rfl
theorem le7su':le7sA_R [] (le7sA k_1) .ret (fun z_=>∃(k21:Nat) (k_2:le7sC_c k_1 k21),z_=le7sC k_2):=by
  refine rn_seq (w:= []) (by kernel_rfl) le7s0 ?_
  rintro _ rfl
  refine rn_seq (w:= [1]) (by kernel_rfl) le7s1 ?_
  rintro _ ⟨k21,k_2,rfl⟩
  exact(le7s2).mono fun _ e_=>⟨k21,k_2,e_⟩
abbrev le7sA_s (a:Array Value) (t:Tq) (o l cp:Nat) (N:List Int) (j:Nat→Value):List Value:=([.slice (some ⟨0,o,none⟩) l cp] ++ (JU 10))
abbrev le7sA_m (a:Array Value) (t:Tq) (o l cp:Nat) (N:List Int):List Mb:= [(a,t)]
abbrev le7sC_s (a:Array Value) (t:Tq) (o l cp:Nat) (N:List Int) (k2:Nat) (j:Nat→Value):List Value:=([j 0,j 1,.slice (some ⟨1,(if k2=0 then 0 else 0+0*1),none⟩) l k2] ++ (J j 3 8))
abbrev le7sC_m (a:Array Value) (t:Tq) (o l cp:Nat) (N:List Int) (k2:Nat):List Mb:= [(a,t),((wA .u8 k2 (N ++ [77])),(5,(0,0))),((wA .u8 1 [77]),(5,(0,0)))]
theorem le7su (a:Array Value) (t:Tq) (o l cp:Nat) (N:List Int) (j:Nat→Value) (hu:SrcOk .u8 [(a,t)] (.slice (some ⟨0,o,none⟩) l cp) N) (hN:N.length=l) (hl:l≤1000000000)  :Runs Tryd.prog (cAt [] (bdy Tryd.f14)) ⟨le7sA_s a t o l cp N j,le7sA_m a t o l cp N,c0,ch0⟩ (fun e s=>e= .ret∧∃(k21:Nat),∃j c ch,(l+1≤k21)∧s=⟨le7sC_s a t o l cp N k21 j,le7sC_m a t o l cp N k21,c,ch⟩) 1:=by
  refine(Rn.old (le7su' (k_1:=(⟨hu,hN,hl⟩:le7sA_c a t o l cp N))) j (by kernel_rfl)).mono ?_
  rintro e s ⟨rfl,_,⟨k21,k_2,rfl⟩,j,c,ch,rfl⟩
  have⟨x_hk⟩:=k_2
  exact⟨rfl,k21,j,c,ch,x_hk,by kernel_rfl⟩
def le7nA_h (i:Nat):Hn:=⟨0,[],[],[],[]⟩
abbrev le7nA_R (w:List Nat) (S:FS) (e:Exit) (K:FS→Prop):Prop:=Rn Tryd.prog (cAt w (bdy Tryd.f14)) S e K 0
structure le7nA_c (N:List Int):Prop where
  hN:N= []
variable {N:List Int} {k_1:le7nA_c N}
abbrev le7nA (_:le7nA_c N):FS:=⟨true,11,[(0,.slice none 0 0)],[]⟩
abbrev le7nB (_:le7nA_c N):FS:=⟨false,11,[(0,.slice none 0 0)],[]⟩
theorem le7n0:le7nA_R [0] (le7nA k_1) .normal (fun z_=>z_=le7nB k_1):=rn_ev (yty.en tab0) le7nA_h mixed _ none [] [] 1 (fun j M=>by kernel_rfl) A0 rfl
structure le7nC_c (_:le7nA_c N) (k2:Nat):Prop where
  hk:0+1≤k2
variable {k2:Nat} {k_2:le7nC_c k_1 k2}
abbrev le7nC (_:le7nC_c k_1 k2):FS:=⟨false,11,[(2,.slice (some ⟨0,(if k2=0 then 0 else 0+0*1),none⟩) 0 k2)],[((wA .u8 k2 (N ++ [77])),(5,(0,0))),((wA .u8 1 [77]),(5,(0,0)))]⟩
theorem le7n1:le7nA_R [1,0] (le7nB k_1) .normal (fun z_=>∃(k2:Nat) (k_2:le7nC_c k_1 k2),z_=le7nC k_2):=by
  have⟨hN⟩:=id k_1
  have hNl:N.length=0:=by rw[hN];rfl
  refine rn_reg none (by kernel_rfl) fun j c0 ch0=> ?_
  refine rl_app (yty.en tab0) apB apB.ht 2 [] [] 1 [((wA .u8 0 []),(5,(0,0)))] 0 0 0 ([]:List Int) N (.slice none 0 0) (some 5) (by kernel_rfl) A0 rfl (by simp) (by subst hN;exact src_nil) (by rw[hN];decide) fun n1 k1 M1 c1_ e1_ hn1 hk1=> ?_
  try simp only[zL] at hn1
  refine rl_app (yty.en tab0) apB apB.ht 1 [] [] 0 [((wA .u8 k1 (([]:List Int) ++ N)),(5,(0,0))),((wA .u8 1 [77]),(5,(0,0)))] 0 n1 k1 N ([77]:List Int) (.slice (some ⟨1,0,none⟩) 1 1) (some 7) (by kernel_rfl) A0 (by rw[hn1,hN];rfl) (by omega) (src_wA (i:=1) rfl rfl (by decide)) (by rw[hN];decide) fun n2 k2 M2 c2_ e2_ hn2 hk2=> ?_
  try simp only[zL] at hn2
  exact rl_end (E:=(yty.en tab0)) _ [] [(4,((True∧((0:Int)≤0))∧0≤0∧0≤k2))] 1 (fun M=>by kernel_rfl) (A1 (by refine⟨⟨?_,?_⟩,?_,?_⟩<;>first|trivial|omega) A0) ⟨k2,⟨by rw[hN] at hn2;simp at hn2;omega⟩,rfl⟩
theorem le7n2:le7nA_R [1,1] (le7nC k_2) .ret (fun z_=>z_=le7nC k_2):=rn_ev (yty.en tab0) le7nA_h mixed _ none [] [] 0 (fun j M=>by kernel_rfl) A0 rfl
theorem le7nu':le7nA_R [] (le7nA k_1) .ret (fun z_=>∃(k21:Nat) (k_2:le7nC_c k_1 k21),z_=le7nC k_2):=by
  refine rn_seq (w:= []) (by kernel_rfl) le7n0 ?_
  rintro _ rfl
  refine rn_seq (w:= [1]) (by kernel_rfl) le7n1 ?_
  rintro _ ⟨k21,k_2,rfl⟩
  exact(le7n2).mono fun _ e_=>⟨k21,k_2,e_⟩
abbrev le7nA_s (N:List Int) (j:Nat→Value):List Value:=([.slice none 0 0] ++ (JU 10))
abbrev le7nA_m (N:List Int):List Mb:= []
abbrev le7nC_s (N:List Int) (k2:Nat) (j:Nat→Value):List Value:=([j 0,j 1,.slice (some ⟨0,(if k2=0 then 0 else 0+0*1),none⟩) 0 k2] ++ (J j 3 8))
abbrev le7nC_m (N:List Int) (k2:Nat):List Mb:= [((wA .u8 k2 (N ++ [77])),(5,(0,0))),((wA .u8 1 [77]),(5,(0,0)))]
theorem le7nu (N:List Int) (j:Nat→Value) (hN:N= [])  :Runs Tryd.prog (cAt [] (bdy Tryd.f14)) ⟨le7nA_s N j,le7nA_m N,c0,ch0⟩ (fun e s=>e= .ret∧∃(k21:Nat),∃j c ch,(0+1≤k21)∧s=⟨le7nC_s N k21 j,le7nC_m N k21,c,ch⟩) 0:=by
  refine(Rn.old (le7nu' (k_1:=(⟨hN⟩:le7nA_c N))) j (by kernel_rfl)).mono ?_
  rintro e s ⟨rfl,_,⟨k21,k_2,rfl⟩,j,c,ch,rfl⟩
  have⟨x_hk⟩:=k_2
  exact⟨rfl,k21,j,c,ch,x_hk,by kernel_rfl⟩
theorem le7_some (a:Array Value) (t:Tq) (o l cp:Nat) (N:List Int) (hu:SrcOk .u8 [(a,t)] (.slice (some ⟨0,o,none⟩) l cp) N) (hN:N.length=l) (hl:l≤1000000000):MakesA Tryd.prog 14 [(a,t)] [.slice (some ⟨0,o,none⟩) l cp] .u8 l (N ++ [77]) 5:=by
  refine makesA_runs (fk:=1) Tryd.func14 (c:=bdy Tryd.f14) (by kernel_rfl) ⟨rfl,by decide⟩ (args:= [.slice (some ⟨0,o,none⟩) l cp]) rfl (r:=2) (by kernel_rfl) (le7su a t o l cp N (fun _=>undef) hu hN hl) ?_
  rintro e s ⟨rfl,k2,j,c,ch,hk,rfl⟩
  have hz:(if k2=0 then 0 else 0+0*1)=0:=by split<;>rfl
  refine⟨rfl,1,k2,by decide,by simp only[List.length_append,List.length_cons,List.length_nil];omega,?_,rfl⟩
  show Value.slice (some ⟨1,(if k2=0 then 0 else 0+0*1),none⟩) l k2=_
  rw[hz]
theorem le7_nil:MakesA Tryd.prog 14 [] [.slice none 0 0] .u8 0 ([] ++ [77]) 5:=by
  refine makesA_runs (fk:=0) Tryd.func14 (c:=bdy Tryd.f14) (by kernel_rfl) ⟨rfl,by decide⟩ (args:= [.slice none 0 0]) rfl (r:=2) (by kernel_rfl) (le7nu [] (fun _=>undef) rfl) ?_
  rintro e s ⟨rfl,k2,j,c,ch,hk,rfl⟩
  have hz:(if k2=0 then 0 else 0+0*1)=0:=by split<;>rfl
  refine⟨rfl,0,k2,by decide,by simp only[List.length_append,List.length_cons,List.length_nil];omega,?_,rfl⟩
  show Value.slice (some ⟨0,(if k2=0 then 0 else 0+0*1),none⟩) 0 k2=_
  rw[hz]
theorem le7_c {mem:List Mb} {bp:Option Addr} {l cp ng:Nat} {N:List Int} (hu:SrcOk .u8 mem (.slice bp l cp) N) (hN:N.length=l) (hl:l≤1000000000):MakesA Tryd.prog 14 mem [.slice bp l cp] .u8 l (N ++ [77]) 5 ng:=
  makesA_lift1 hu (fun a t o h=>le7_some a t o l cp N h hN hl) (fun e=>by subst e;have:l=0:=hN.symm;subst this;exact le7_nil)
def tabM5:List (Entry Tryd.prog):=pEx :: pDx :: tabM4
end Go.Proofs.YtcfnjcacdmkgbaaDoor

set_option linter.unusedSimpArgs false
set_option linter.unusedVariables false
/-! MacHmac's law: a text is kept. -/
namespace Go.Proofs.YtcfnjcacdmkgbaaDoor
open Go.RowKit Go.Ev
variable {c0:Prop} {ch0:List (Option Value)}
def kpsA_h (i:Nat):Hn:=⟨0,[],[],[],[]⟩
abbrev kpsA_R (w:List Nat) (S:FS) (e:Exit) (K:FS→Prop):Prop:=Rn Tryd.prog (cAt w (bdy Tryd.f18)) S e K 2
structure kpsA_c (t1 t2:Tq) (a:Array Value) (o l cp c3:Nat):Prop where
  hb:bytesAt a o l
  hz:o+l≤a.size
  hcp:l≤cp
  hl:l≤100000000
  hc3:l+1≤c3
variable {t1 t2:Tq} {a:Array Value} {o l cp c3:Nat} {k_1:kpsA_c t1 t2 a o l cp c3}
abbrev kpsA (_:kpsA_c t1 t2 a o l cp c3):FS:=⟨true,22,[(0,.slice (some ⟨0,0,none⟩) l c3),(1,.slice (some ⟨1,o,none⟩) l cp)],[((wA .u8 c3 ((bL a o l) ++ [77])),t1),(a,t2)]⟩
abbrev kpsB (_:kpsA_c t1 t2 a o l cp c3):FS:=⟨false,22,[(0,.slice (some ⟨0,0,none⟩) l c3),(1,.slice (some ⟨1,o,none⟩) l cp),(4,.bool false)],[((wA .u8 c3 ((bL a o l) ++ [77])),t1),(a,t2)]⟩
theorem kps0:kpsA_R [0] (kpsA k_1) .normal (fun z_=>z_=kpsB k_1):=rn_ev (yty.enf tabM5 2) kpsA_h mixed _ none [] [] 1 (fun j M=>by kernel_rfl) A0 rfl
abbrev kpsC (_:kpsA_c t1 t2 a o l cp c3):FS:=⟨false,22,[(4,.bool true)],[((wA .u8 c3 ((bL a o l) ++ [77])),t1),(a,t2)]⟩
theorem kps1:kpsA_R [1] (kpsB k_1) .ret (fun z_=>z_=kpsC k_1):=by
  have⟨hb,hz,hcp,hl,hc3⟩:=id k_1
  exact rn_ev (yty.enf tabM5 2) kpsA_h mixed _ none [some (.bool true),some (.int .i64 ((l+1:Nat):Int)),some (.int .u8 77),some (.bool true)] [(2,(((wA .u8 c3 ((bL a o l) ++ [77])).extract 0 (0+l)).all isB8=true∧0+l≤(wA .u8 c3 ((bL a o l) ++ [77])).size)),(2,((a.extract o (o+l)).all isB8=true∧o+l≤a.size)),(1,(((bstr ((wA .u8 c3 ((bL a o l) ++ [77])).extract 0 (0+l)))).toList == ((bstr (a.extract o (o+l)))).toList)=true),(9,(IntKind.i64.wrap ((l:Int)+1))=((l+1:Nat):Int)),(0,((True∧(0≤((l+1:Nat):Int)))∧0≤(l+1)∧(l+1)≤c3)),(4,((0:Int)≤(l:Int)∧((l:Int):Int)<(((l+1):Nat):Int))),(0,(((wA .u8 c3 ((bL a o l) ++ [77]))[((if c3=0 then 0 else 0+0*1)+Int.toNat (l:Int)*1)]? =some (.int .u8 77))∧(77:Int)=77)),(1,true=true)] 2 (fun j M=>by kernel_rfl) (A1 ⟨b8_ext (lentb hb hc3) (by rw[wA_size];omega),by rw[wA_size];omega⟩ (A1 ⟨b8_ext hb hz,hz⟩ (A1 (by rw[ext_bL (lentb hb hc3) (by rw[wA_size];omega),(lent_bL hb hc3),ext_bL hb hz];exact beq_self_eq_true _) (A1 (wi64 (by omega)) (A1 (by refine⟨⟨?_,?_⟩,?_,?_⟩<;>first|trivial|omega) (A1 (by(try simp only[Int.toNat_natCast,wA_size]);omega) (A1 ⟨(at77 (bL_len a o l) hc3 (by split<;>omega)),rfl⟩ (A1 (by first|rfl|assumption) A0)))))))) rfl
theorem kpsu':kpsA_R [] (kpsA k_1) .ret (fun z_=>z_=kpsC k_1):=by
  refine rn_seq (w:= []) (by kernel_rfl) kps0 ?_
  rintro _ rfl
  exact kps1
abbrev kpsA_s (t1 t2:Tq) (a:Array Value) (o l cp c3:Nat) (j:Nat→Value):List Value:=([.slice (some ⟨0,0,none⟩) l c3,.slice (some ⟨1,o,none⟩) l cp] ++ (JU 20))
abbrev kpsA_m (t1 t2:Tq) (a:Array Value) (o l cp c3:Nat):List Mb:= [((wA .u8 c3 ((bL a o l) ++ [77])),t1),(a,t2)]
abbrev kpsC_s (t1 t2:Tq) (a:Array Value) (o l cp c3:Nat) (j:Nat→Value):List Value:=(J j 0 4 ++ ([.bool true] ++ (J j 5 17)))
abbrev kpsC_m (t1 t2:Tq) (a:Array Value) (o l cp c3:Nat):List Mb:= [((wA .u8 c3 ((bL a o l) ++ [77])),t1),(a,t2)]
theorem kpsu (t1 t2:Tq) (a:Array Value) (o l cp c3:Nat) (j:Nat→Value) (hb:bytesAt a o l) (hz:o+l≤a.size) (hcp:l≤cp) (hl:l≤100000000) (hc3:l+1≤c3)  :Runs Tryd.prog (cAt [] (bdy Tryd.f18)) ⟨kpsA_s t1 t2 a o l cp c3 j,kpsA_m t1 t2 a o l cp c3,c0,ch0⟩ (fun e s=>e= .ret∧∃j c ch,s=⟨kpsC_s t1 t2 a o l cp c3 j,kpsC_m t1 t2 a o l cp c3,c,ch⟩) 2:=by
  refine(Rn.old (kpsu' (k_1:=(⟨hb,hz,hcp,hl,hc3⟩:kpsA_c t1 t2 a o l cp c3))) j (by kernel_rfl)).mono ?_
  rintro e s ⟨rfl,_,rfl,j,c,ch,rfl⟩
  exact⟨rfl,j,c,ch,by kernel_rfl⟩
def kpnA_h (i:Nat):Hn:=⟨0,[],[],[],[]⟩
abbrev kpnA_R (w:List Nat) (S:FS) (e:Exit) (K:FS→Prop):Prop:=Rn Tryd.prog (cAt w (bdy Tryd.f18)) S e K 1
structure kpnA_c (t1:Tq) (c3:Nat):Prop where
  hc3:0+1≤c3
variable {k_2:kpnA_c t1 c3}
abbrev kpnA (_:kpnA_c t1 c3):FS:=⟨true,22,[(0,.slice (some ⟨0,0,none⟩) 0 c3),(1,.slice none 0 0)],[((wA .u8 c3 (([]:List Int) ++ [77])),t1)]⟩
abbrev kpnB (_:kpnA_c t1 c3):FS:=⟨false,22,[(0,.slice (some ⟨0,0,none⟩) 0 c3),(1,.slice none 0 0),(4,.bool false)],[((wA .u8 c3 (([]:List Int) ++ [77])),t1)]⟩
theorem kpn0:kpnA_R [0] (kpnA k_2) .normal (fun z_=>z_=kpnB k_2):=rn_ev (yty.enf tabM5 1) kpnA_h mixed _ none [] [] 1 (fun j M=>by kernel_rfl) A0 rfl
abbrev kpnC (_:kpnA_c t1 c3):FS:=⟨false,22,[(4,.bool true)],[((wA .u8 c3 (([]:List Int) ++ [77])),t1)]⟩
theorem kpn1:kpnA_R [1] (kpnB k_2) .ret (fun z_=>z_=kpnC k_2):=by
  have⟨hc3⟩:=id k_2
  exact rn_ev (yty.enf tabM5 1) kpnA_h mixed _ none [some (.bool true),none,some (.int .u8 77),some (.bool true)] [(2,(((wA .u8 c3 (([]:List Int) ++ [77])).extract 0 (0+0)).all isB8=true∧0+0≤(wA .u8 c3 (([]:List Int) ++ [77])).size)),(5,(((bstr ((wA .u8 c3 (([]:List Int) ++ [77])).extract 0 (0+0)))).toList == ((bstr #[])).toList)=true),(10,((True∧((0:Int)≤1))∧0≤1∧1≤c3)),(4,bd 0 1),(0,(((wA .u8 c3 (([]:List Int) ++ [77]))[((if c3=0 then 0 else 0+0*1)+0)]? =some (.int .u8 77))∧(77:Int)=77)),(1,true=true)] 2 (fun j M=>by kernel_rfl) (A1 ⟨b8_ext (lentb (a:= #[]) (o:=0) (l:=0) (fun j h=>by omega) hc3) (by rw[wA_size];omega),by rw[wA_size];omega⟩ (A1 (by rw[show(wA .u8 c3 (([]:List Int) ++ [77])).extract 0 (0+0)= #[] from by simp];exact beq_self_eq_true _) (A1 (by refine⟨⟨?_,?_⟩,?_,?_⟩<;>first|trivial|omega) (A1 (bdd rfl) (A1 ⟨(at77 (N:= []) rfl hc3 (by split<;>rfl)),rfl⟩ (A1 (by first|rfl|assumption) A0)))))) rfl
theorem kpnu':kpnA_R [] (kpnA k_2) .ret (fun z_=>z_=kpnC k_2):=by
  refine rn_seq (w:= []) (by kernel_rfl) kpn0 ?_
  rintro _ rfl
  exact kpn1
abbrev kpnA_s (t1:Tq) (c3:Nat) (j:Nat→Value):List Value:=([.slice (some ⟨0,0,none⟩) 0 c3,.slice none 0 0] ++ (JU 20))
abbrev kpnA_m (t1:Tq) (c3:Nat):List Mb:= [((wA .u8 c3 (([]:List Int) ++ [77])),t1)]
abbrev kpnC_s (t1:Tq) (c3:Nat) (j:Nat→Value):List Value:=(J j 0 4 ++ ([.bool true] ++ (J j 5 17)))
abbrev kpnC_m (t1:Tq) (c3:Nat):List Mb:= [((wA .u8 c3 (([]:List Int) ++ [77])),t1)]
theorem kpnu (t1:Tq) (c3:Nat) (j:Nat→Value) (hc3:0+1≤c3)  :Runs Tryd.prog (cAt [] (bdy Tryd.f18)) ⟨kpnA_s t1 c3 j,kpnA_m t1 c3,c0,ch0⟩ (fun e s=>e= .ret∧∃j c ch,s=⟨kpnC_s t1 c3 j,kpnC_m t1 c3,c,ch⟩) 1:=by
  refine(Rn.old (kpnu' (k_2:=(⟨hc3⟩:kpnA_c t1 c3))) j (by kernel_rfl)).mono ?_
  rintro e s ⟨rfl,_,rfl,j,c,ch,rfl⟩
  exact⟨rfl,j,c,ch,by kernel_rfl⟩
theorem kps_c (t1 t2:Tq) (a:Array Value) (o l cp c3:Nat) (hb:bytesAt a o l) (hz:o+l≤a.size) (hcp:l≤cp) (hl:l≤100000000) (hc3:l+1≤c3):Reads Tryd.prog 18 [(wA .u8 c3 (bL a o l ++ [77]),t1),(a,t2)] [.slice (some ⟨0,0,none⟩) l c3,.slice (some ⟨1,o,none⟩) l cp] (.bool true):=by
  refine reads_runs (fk:=2) (yty.enf tabM5 2) Tryd.func18 (c:=bdy Tryd.f18) (by kernel_rfl) ⟨by kernel_rfl,by decide⟩ (args:= [.slice (some ⟨0,0,none⟩) l c3,.slice (some ⟨1,o,none⟩) l cp]) (by kernel_rfl) (K:=fun e s=>e= .ret∧resS (yty.enf tabM5 2) s Tryd.f18.results.toList=some [.bool true]) ?_ (fun e s h=>⟨h.1,_,h.2,rfl⟩)
  refine(kpsu t1 t2 a o l cp c3 (fun _=>undef) hb hz hcp hl hc3).mono ?_
  rintro e s ⟨rfl,j,c,ch,rfl⟩
  exact⟨rfl,by kernel_rfl⟩
theorem kpn_c (t1:Tq) (c3:Nat) (hc3:0+1≤c3):Reads Tryd.prog 18 [(wA .u8 c3 (([]:List Int) ++ [77]),t1)] [.slice (some ⟨0,0,none⟩) 0 c3,.slice none 0 0] (.bool true):=by
  refine reads_runs (fk:=1) (yty.enf tabM5 1) Tryd.func18 (c:=bdy Tryd.f18) (by kernel_rfl) ⟨by kernel_rfl,by decide⟩ (args:= [.slice (some ⟨0,0,none⟩) 0 c3,.slice none 0 0]) (by kernel_rfl) (K:=fun e s=>e= .ret∧resS (yty.enf tabM5 1) s Tryd.f18.results.toList=some [.bool true]) ?_ (fun e s h=>⟨h.1,_,h.2,rfl⟩)
  refine(kpnu t1 c3 (fun _=>undef) hc3).mono ?_
  rintro e s ⟨rfl,j,c,ch,rfl⟩
  exact⟨rfl,by kernel_rfl⟩
def pKept : Entry Tryd.prog where
  f:=18
  g := fun mem xs => match xs with
    | [.slice (some ⟨i, 0, none⟩) l k, .slice bq m cq] => (match mem[i]? with
      |some (x,_)=>some (.bool true,(x=wA .u8 k (bytesOf mem bq m ++ [77])∧l=m∧BytesOk mem bq m cq∧m≤100000000∧m+1≤k))
      |_=>none)
    |_=>none
  ok := fun mem xs v c e hc w β hw hg => by
    split at e
    · rename_i i l k bq m cq
      split at e
      · rename_i x t1 hx
        simp only[Option.some.injEq,Prod.mk.injEq] at e
        obtain⟨rfl,rfl⟩:=e
        obtain⟨rfl,rfl,hB,hl,hk⟩:=hc
        rcases hB with⟨rfl,rfl,rfl⟩|⟨i2,o,src,st,rfl,hm,hb,hz,hcp⟩
        · exact kpn_c t1 k hk w (fun _=>β i) (fun j y hy=>by
            match j,hy with
            |0,hy=>cases hy;exact hw i _ hx
            |j+1,hy=>simp at hy) (fun j hj=>absurd hj (Nat.not_lt_zero _))
        · have e1 : bytesOf mem (some ⟨i2, o, none⟩) l = bL src o l := by simp only [bytesOf, hm]
          rw[e1] at hx
          exact kps_c t1 st src o l cq k hb hz hcp hl hk w (fun j=>if j=0 then β i else β i2) (fun j y hy=>by
            match j,hy with
            |0,hy=>cases hy;exact hw i _ hx
            |1,hy=>cases hy;exact hw i2 _ hm
            |j+2,hy=>simp at hy) (fun j hj=>absurd hj (Nat.not_lt_zero _))
      · cases e
    · cases e
  call:=call_of Tryd.func18 (by kernel_rfl) (by kernel_rfl)
def tabM6:List (Entry Tryd.prog):=pKept :: tabM5
end Go.Proofs.YtcfnjcacdmkgbaaDoor

set_option linter.unusedSimpArgs false
set_option linter.unusedVariables false
/-! MacHmac's law: up to the two texts that are lent. -/
namespace Go.Proofs.YtcfnjcacdmkgbaaDoor
open Go.RowKit Go.Ev
variable {c0:Prop} {ch0:List (Option Value)}
theorem hmac2_len (K N:List Int):(hmac2 K N).length=32:=by unfold hmac2 hm2;exact sh2_len _
theorem hmac5_len (K N:List Int):(hmac5 K N).length=64:=by unfold hmac5 hm5;exact sh5_len _
theorem hmac2_bt (K N:List Int):∀ x ∈ hmac2 K N,0≤x∧x<256:=by unfold hmac2 hm2;exact sh2_bt _
theorem lentN {N:List Int} {l c:Nat} (hb:∀ x ∈ N,0≤x∧x<256) (hl:N.length=l) (hc:(N ++ [77]).length≤c):bytesAt (wA .u8 c (N ++ [77])) 0 l∧bL (wA .u8 c (N ++ [77])) 0 l=N:=by
  simp only[List.length_append,List.length_cons,List.length_nil] at hc
  have e:∀ j,j<l→iat (wA .u8 c (N ++ [77])) (0+j)=N.getD j 0:=fun j hj=>by
    unfold iat
    rw[Nat.zero_add,wA_at (by omega),getD_app,if_pos (by omega)]
  refine⟨fun j hj=> ?_,?_⟩
  · rw [e j hj]
    have hm:N.getD j 0 ∈ N:=by
      rw[List.getD_eq_getElem?_getD,List.getElem?_eq_getElem (by omega),Option.getD_some]
      exact List.getElem_mem _
    refine⟨?_,hb _ hm⟩
    rw[Nat.zero_add,wA_at (by omega),getD_app,if_pos (by omega)]
  · apply List.ext_getElem?
    intro j
    by_cases hj:j<l
    · unfold bL
      rw[List.getElem?_map,List.getElem?_range hj,Option.map_some,e j hj,List.getD_eq_getElem?_getD,List.getElem?_eq_getElem (by omega),Option.getD_some]
    · rw[List.getElem?_eq_none (by rw[bL_len];omega),List.getElem?_eq_none (by omega)]
theorem lentOk {mem:List Mb} {i:Nat} {N:List Int} {l c:Nat} {t:Tq} (hb:∀ x ∈ N,0≤x∧x<256) (hl:N.length=l) (hc:(N ++ [77]).length≤c) (hm:mem[i]? =some (wA .u8 c (N ++ [77]),t)):BytesOk mem (some ⟨i,0,none⟩) l c:=by
  have h:=hc
  simp only[List.length_append,List.length_cons,List.length_nil] at h
  exact .inr ⟨i,0,_,t,rfl,hm,(lentN hb hl hc).1,by rw[wA_size];omega,by omega⟩
def mhA_h (i:Nat):Hn:=if i=5 then⟨33,[],[],[],[]⟩ else⟨0,[],[],[],[]⟩
abbrev mhA_R (w:List Nat) (S:FS) (e:Exit) (K:FS→Prop):Prop:=Rn Tryd.prog (cAt w (bdy Tryd.f4)) S e K 2000004
structure mhA_c (g0 g1 t1 t2:Tq) (a1 a2:Array Value) (b1 b2:Option Addr) (l1 c1 l2 c2:Nat) (N1 N2:List Int):Prop where
  hk:BytesOk [(wA .u32 64 kL2,g0),(wA .u64 80 kL5,g1),(a1,t1),(a2,t2)] b1 l1 c1
  hN1:bytesOf [(wA .u32 64 kL2,g0),(wA .u64 80 kL5,g1),(a1,t1),(a2,t2)] b1 l1=N1
  ht:BytesOk [(wA .u32 64 kL2,g0),(wA .u64 80 kL5,g1),(a1,t1),(a2,t2)] b2 l2 c2
  hN2:bytesOf [(wA .u32 64 kL2,g0),(wA .u64 80 kL5,g1),(a1,t1),(a2,t2)] b2 l2=N2
  hl:l1≤2000∧l2≤2000
variable {g0 g1 t1 t2:Tq} {a1 a2:Array Value} {b1 b2:Option Addr} {l1 c1 l2 c2:Nat} {N1 N2:List Int} {k_1:mhA_c g0 g1 t1 t2 a1 a2 b1 b2 l1 c1 l2 c2 N1 N2}
abbrev mhA (_:mhA_c g0 g1 t1 t2 a1 a2 b1 b2 l1 c1 l2 c2 N1 N2):FS:=⟨true,64,[(0,.slice b1 l1 c1),(1,.slice b2 l2 c2)],[((wA .u32 64 kL2),g0),((wA .u64 80 kL5),g1),(a1,t1),(a2,t2)]⟩
abbrev mhB (_:mhA_c g0 g1 t1 t2 a1 a2 b1 b2 l1 c1 l2 c2 N1 N2):FS:=⟨false,64,[(0,.slice b1 l1 c1),(1,.slice b2 l2 c2),(4,.bool false)],[((wA .u32 64 kL2),g0),((wA .u64 80 kL5),g1),(a1,t1),(a2,t2)]⟩
theorem mh0:mhA_R [0] (mhA k_1) .normal (fun z_=>z_=mhB k_1):=rn_ev (yty.enm tabM6 [mMask] 2000004) mhA_h mixed _ none [] [] 1 (fun j M=>by kernel_rfl) A0 rfl
theorem mh1:mhA_R [1,0] (mhB k_1) .normal (fun z_=>z_=mhB k_1):=by
  have⟨hk,hN1,ht,hN2,hl⟩:=id k_1
  exact rn_ev (yty.enm tabM6 [mMask] 2000004) mhA_h mixed _ none [some (.bool false),some (.bool false)] [(5,(decide (2000<(l1:Int)))=false),(7,(decide (2000<(l2:Int)))=false)] 1 (fun j M=>by kernel_rfl) (A1 (decide_eq_false (by omega)) (A1 (decide_eq_false (by omega)) A0)) rfl
structure mhC_c (_:mhA_c g0 g1 t1 t2 a1 a2 b1 b2 l1 c1 l2 c2 N1 N2) (k1 k2:Nat):Prop where
  hk1:(N1 ++ [77]).length≤k1
  hk2:(N2 ++ [77]).length≤k2
variable {k1 k2:Nat} {k_2:mhC_c k_1 k1 k2}
abbrev mhC (_:mhC_c k_1 k1 k2):FS:=⟨false,64,[(0,.slice b1 l1 c1),(1,.slice b2 l2 c2),(5,.slice (some ⟨4,0,none⟩) l1 k1),(6,.slice (some ⟨5,0,none⟩) l2 k2)],[((wA .u32 64 kL2),g0),((wA .u64 80 kL5),g1),(a1,t1),(a2,t2),((wA .u8 k1 (N1 ++ [77])),(5,(0,0))),((wA .u8 k2 (N2 ++ [77])),(5,(0,0)))]⟩
theorem mh3:mhA_R [1,1,0] (mhB k_1) .normal (fun z_=>∃(k1 k2:Nat) (k_2:mhC_c k_1 k1 k2),z_=mhC k_2):=by
  have⟨hk,hN1,ht,hN2,hl⟩:=id k_1
  refine rn_reg none (by kernel_rfl) fun j c0 ch0=> ?_
  have hM1:MakesA Tryd.prog 14 [((wA .u32 64 kL2),g0),((wA .u64 80 kL5),g1),(a1,t1),(a2,t2)] [.slice b1 l1 c1] .u8 l1 (N1 ++ [77]) 5 2:=le7_c (hN1 ▸ hk.src) (by rw[← hN1];exact hk.len) (by omega)
  refine rl_call (yty.enm tabM6 [mMask] 2000004) (call_of Tryd.func14 (by kernel_rfl) (by kernel_rfl)) 1 [] [] 1 4 (some 20) hM1 (by kernel_rfl) A0 fun k1 c1_ e1_ hk1=> ?_
  have hM2:MakesA Tryd.prog 14 [((wA .u32 64 kL2),g0),((wA .u64 80 kL5),g1),(a1,t1),(a2,t2),((wA .u8 k1 (N1 ++ [77])),(5,(0,0)))] [.slice b2 l2 c2] .u8 l2 (N2 ++ [77]) 5 2:=le7_c ((hN2 ▸ (ht.app (x:= [_])).2 ▸ (ht.app (x:= [_])).1.src)) (by rw[← hN2];exact ht.len) (by omega)
  refine rl_call (yty.enm tabM6 [mMask] 2000004) (call_of Tryd.func14 (by kernel_rfl) (by kernel_rfl)) 1 [] [] 1 5 (some 22) hM2 (by kernel_rfl) A0 fun k2 c2_ e2_ hk2=> ?_
  exact rl_end (E:=(yty.enm tabM6 [mMask] 2000004)) _ [] [] 2 (fun M=>by kernel_rfl) A0 ⟨k1,k2,⟨by omega,by omega⟩,rfl⟩
structure mhD_c (_:mhC_c k_1 k1 k2) (Z1 Z2 Z3:List Int):Prop where
  hZ1:Z1=hmac2 N1 N2
  hZ2:Z2=hmac5 N1 N2
  hZ3:Z3=hmac2 N1 N2
variable {Z1 Z2 Z3:List Int} {k_3:mhD_c k_2 Z1 Z2 Z3}
abbrev mhD (_:mhD_c k_2 Z1 Z2 Z3):FS:=⟨false,64,[(0,.slice b1 l1 c1),(1,.slice b2 l2 c2),(5,.slice (some ⟨4,0,none⟩) l1 k1),(6,.slice (some ⟨5,0,none⟩) l2 k2),(7,.pointer (some ⟨6,0,none⟩)),(8,.pointer (some ⟨7,0,none⟩)),(9,.pointer (some ⟨8,0,none⟩))],[((wA .u32 64 kL2),g0),((wA .u64 80 kL5),g1),(a1,t1),(a2,t2),((wA .u8 k1 (N1 ++ [77])),(5,(0,0))),((wA .u8 k2 (N2 ++ [77])),(5,(0,0))),((wA .u8 32 Z1),(25,(0,0))),((wA .u8 64 Z2),(29,(0,0))),((wA .u8 32 Z3),(25,(0,0)))]⟩
theorem mh4:mhA_R [1,1,1,0] (mhC k_2) .normal (fun z_=>∃(k_3:mhD_c k_2 (hmac2 (bL (wA .u8 k1 (N1 ++ [77])) 0 l1) (bL (wA .u8 k2 (N2 ++ [77])) 0 l2)) (hmac5 (bL (wA .u8 k1 (N1 ++ [77])) 0 l1) (bL (wA .u8 k2 (N2 ++ [77])) 0 l2)) (hmac2 (bL (wA .u8 k1 (N1 ++ [77])) 0 l1) (bL (wA .u8 k2 (N2 ++ [77])) 0 l2))),z_=mhD k_3):=by
  have⟨hk,hN1,ht,hN2,hl⟩:=id k_1
  have⟨hk1,hk2⟩:=id k_2
  exact rn_ev (yty.enm tabM6 [mMask] 2000004) mhA_h mixed _ none [] [(4,((wA .u32 64 kL2)=wA .u32 64 kL2∧(wA .u64 80 kL5)=wA .u64 80 kL5∧BytesOk [((wA .u32 64 kL2),g0),((wA .u64 80 kL5),g1),(a1,t1),(a2,t2),((wA .u8 k1 (N1 ++ [77])),(5,(0,0))),((wA .u8 k2 (N2 ++ [77])),(5,(0,0)))] (some ⟨4,0,none⟩) l1 k1∧BytesOk [((wA .u32 64 kL2),g0),((wA .u64 80 kL5),g1),(a1,t1),(a2,t2),((wA .u8 k1 (N1 ++ [77])),(5,(0,0))),((wA .u8 k2 (N2 ++ [77])),(5,(0,0)))] (some ⟨5,0,none⟩) l2 k2∧l1≤100000000∧l2≤100000000)),(4,((wA .u32 64 kL2)=wA .u32 64 kL2∧(wA .u64 80 kL5)=wA .u64 80 kL5∧BytesOk [((wA .u32 64 kL2),g0),((wA .u64 80 kL5),g1),(a1,t1),(a2,t2),((wA .u8 k1 (N1 ++ [77])),(5,(0,0))),((wA .u8 k2 (N2 ++ [77])),(5,(0,0)))] (some ⟨4,0,none⟩) l1 k1∧BytesOk [((wA .u32 64 kL2),g0),((wA .u64 80 kL5),g1),(a1,t1),(a2,t2),((wA .u8 k1 (N1 ++ [77])),(5,(0,0))),((wA .u8 k2 (N2 ++ [77])),(5,(0,0)))] (some ⟨5,0,none⟩) l2 k2∧l1≤100000000∧l2≤100000000)),(4,((wA .u32 64 kL2)=wA .u32 64 kL2∧(wA .u64 80 kL5)=wA .u64 80 kL5∧BytesOk [((wA .u32 64 kL2),g0),((wA .u64 80 kL5),g1),(a1,t1),(a2,t2),((wA .u8 k1 (N1 ++ [77])),(5,(0,0))),((wA .u8 k2 (N2 ++ [77])),(5,(0,0)))] (some ⟨4,0,none⟩) l1 k1∧BytesOk [((wA .u32 64 kL2),g0),((wA .u64 80 kL5),g1),(a1,t1),(a2,t2),((wA .u8 k1 (N1 ++ [77])),(5,(0,0))),((wA .u8 k2 (N2 ++ [77])),(5,(0,0)))] (some ⟨5,0,none⟩) l2 k2∧l1≤100000000∧l2≤100000000)),(0,((wA .u8 32 (hmac2 (bL (wA .u8 k1 (N1 ++ [77])) 0 l1) (bL (wA .u8 k2 (N2 ++ [77])) 0 l2))).all (fun v=>v.oneCell')=true)),(0,((wA .u8 64 (hmac5 (bL (wA .u8 k1 (N1 ++ [77])) 0 l1) (bL (wA .u8 k2 (N2 ++ [77])) 0 l2))).all (fun v=>v.oneCell')=true)),(0,((wA .u8 32 (hmac2 (bL (wA .u8 k1 (N1 ++ [77])) 0 l1) (bL (wA .u8 k2 (N2 ++ [77])) 0 l2))).all (fun v=>v.oneCell')=true))] 0 (fun j M=>by kernel_rfl) (A1 ⟨rfl,rfl,lentOk (i:=4) (hN1 ▸ hk.bt) (hN1 ▸ hk.len) hk1 rfl,lentOk (i:=5) (hN2 ▸ ht.bt) (hN2 ▸ ht.len) hk2 rfl,by omega,by omega⟩ (A1 ⟨rfl,rfl,lentOk (i:=4) (hN1 ▸ hk.bt) (hN1 ▸ hk.len) hk1 rfl,lentOk (i:=5) (hN2 ▸ ht.bt) (hN2 ▸ ht.len) hk2 rfl,by omega,by omega⟩ (A1 ⟨rfl,rfl,lentOk (i:=4) (hN1 ▸ hk.bt) (hN1 ▸ hk.len) hk1 rfl,lentOk (i:=5) (hN2 ▸ ht.bt) (hN2 ▸ ht.len) hk2 rfl,by omega,by omega⟩ (A1 (wA_one _ _ _) (A1 (wA_one _ _ _) (A1 (wA_one _ _ _) A0)))))) ⟨⟨by rw[(lentN (hN1 ▸ hk.bt) (hN1 ▸ hk.len) hk1).2,(lentN (hN2 ▸ ht.bt) (hN2 ▸ ht.len) hk2).2],by rw[(lentN (hN1 ▸ hk.bt) (hN1 ▸ hk.len) hk1).2,(lentN (hN2 ▸ ht.bt) (hN2 ▸ ht.len) hk2).2],by rw[(lentN (hN1 ▸ hk.bt) (hN1 ▸ hk.len) hk1).2,(lentN (hN2 ▸ ht.bt) (hN2 ▸ ht.len) hk2).2]⟩,rfl⟩
abbrev mhE (_:mhD_c k_2 Z1 Z2 Z3):FS:=⟨false,64,[(4,.bool true)],[((wA .u32 64 kL2),g0),((wA .u64 80 kL5),g1),(a1,t1),(a2,t2),((wA .u8 k1 (N1 ++ [77])),(5,(0,0))),((wA .u8 k2 (N2 ++ [77])),(5,(0,0))),((wA .u8 32 Z1),(25,(0,0))),((wA .u8 64 Z2),(29,(0,0))),((wA .u8 32 Z3),(25,(0,0)))]⟩
theorem mh5:mhA_R [1,1,1,1] (mhD k_3) .ret (fun z_=>z_=mhE k_3):=by
  have⟨hk,hN1,ht,hN2,hl⟩:=id k_1
  have⟨hk1,hk2⟩:=id k_2
  have⟨hZ1,hZ2,hZ3⟩:=id k_3
  have hl1:N1.length=l1:=hN1 ▸ hk.len
  have hl2:N2.length=l2:=hN2 ▸ ht.len
  have hA:BytesOk [(wA .u32 64 kL2,g0),(wA .u64 80 kL5,g1),(a1,t1),(a2,t2),(wA .u8 k1 (N1 ++ [77]),5,(0,0)),(wA .u8 k2 (N2 ++ [77]),5,(0,0)),(wA .u8 32 Z1,25,(0,0)),(wA .u8 64 Z2,29,(0,0)),(wA .u8 32 Z3,25,(0,0))] b1 l1 c1∧bytesOf [(wA .u32 64 kL2,g0),(wA .u64 80 kL5,g1),(a1,t1),(a2,t2),(wA .u8 k1 (N1 ++ [77]),5,(0,0)),(wA .u8 k2 (N2 ++ [77]),5,(0,0)),(wA .u8 32 Z1,25,(0,0)),(wA .u8 64 Z2,29,(0,0)),(wA .u8 32 Z3,25,(0,0))] b1 l1=bytesOf [(wA .u32 64 kL2,g0),(wA .u64 80 kL5,g1),(a1,t1),(a2,t2)] b1 l1:=hk.app (x:= [_,_,_,_,_])
  have hB:BytesOk [(wA .u32 64 kL2,g0),(wA .u64 80 kL5,g1),(a1,t1),(a2,t2),(wA .u8 k1 (N1 ++ [77]),5,(0,0)),(wA .u8 k2 (N2 ++ [77]),5,(0,0)),(wA .u8 32 Z1,25,(0,0)),(wA .u8 64 Z2,29,(0,0)),(wA .u8 32 Z3,25,(0,0))] b2 l2 c2∧bytesOf [(wA .u32 64 kL2,g0),(wA .u64 80 kL5,g1),(a1,t1),(a2,t2),(wA .u8 k1 (N1 ++ [77]),5,(0,0)),(wA .u8 k2 (N2 ++ [77]),5,(0,0)),(wA .u8 32 Z1,25,(0,0)),(wA .u8 64 Z2,29,(0,0)),(wA .u8 32 Z3,25,(0,0))] b2 l2=bytesOf [(wA .u32 64 kL2,g0),(wA .u64 80 kL5,g1),(a1,t1),(a2,t2)] b2 l2:=ht.app (x:= [_,_,_,_,_])
  rw[hN1] at hA
  rw[hN2] at hB
  have hk1':=hk1
  have hk2':=hk2
  simp only[List.length_append,List.length_cons,List.length_nil] at hk1' hk2'
  have h2:(decide (db (wA .u8 32 Z1)=db (wA .u8 32 (hmac2 (bytesOf [((wA .u32 64 kL2),g0),((wA .u64 80 kL5),g1),(a1,t1),(a2,t2),((wA .u8 k1 (N1 ++ [77])),(5,(0,0))),((wA .u8 k2 (N2 ++ [77])),(5,(0,0))),((wA .u8 32 Z1),(25,(0,0))),((wA .u8 64 Z2),(29,(0,0))),((wA .u8 32 Z3),(25,(0,0)))] b1 l1) (bytesOf [((wA .u32 64 kL2),g0),((wA .u64 80 kL5),g1),(a1,t1),(a2,t2),((wA .u8 k1 (N1 ++ [77])),(5,(0,0))),((wA .u8 k2 (N2 ++ [77])),(5,(0,0))),((wA .u8 32 Z1),(25,(0,0))),((wA .u8 64 Z2),(29,(0,0))),((wA .u8 32 Z3),(25,(0,0)))] b2 l2)))))=true:=(decide_eq_true (by rw[hA.2,hB.2,hZ1]))
  have h3:(intsOf (wA .u8 64 Z2) == intsOf (wA .u8 64 (hmac5 (bytesOf [((wA .u32 64 kL2),g0),((wA .u64 80 kL5),g1),(a1,t1),(a2,t2),((wA .u8 k1 (N1 ++ [77])),(5,(0,0))),((wA .u8 k2 (N2 ++ [77])),(5,(0,0))),((wA .u8 32 Z1),(25,(0,0))),((wA .u8 64 Z2),(29,(0,0))),((wA .u8 32 Z3),(25,(0,0)))] b1 l1) (bytesOf [((wA .u32 64 kL2),g0),((wA .u64 80 kL5),g1),(a1,t1),(a2,t2),((wA .u8 k1 (N1 ++ [77])),(5,(0,0))),((wA .u8 k2 (N2 ++ [77])),(5,(0,0))),((wA .u8 32 Z1),(25,(0,0))),((wA .u8 64 Z2),(29,(0,0))),((wA .u8 32 Z3),(25,(0,0)))] b2 l2))))=true:=(by rw[hA.2,hB.2,hZ2];exact beq_self_eq_true _)
  have h4:(decide (db (wA .u8 32 Z3)=db (wA .u8 32 (hmac2 (bytesOf [((wA .u32 64 kL2),g0),((wA .u64 80 kL5),g1),(a1,t1),(a2,t2),((wA .u8 k1 (N1 ++ [77])),(5,(0,0))),((wA .u8 k2 (N2 ++ [77])),(5,(0,0))),((wA .u8 32 Z1),(25,(0,0))),((wA .u8 64 Z2),(29,(0,0))),((wA .u8 32 Z3),(25,(0,0)))] b1 l1) (bytesOf [((wA .u32 64 kL2),g0),((wA .u64 80 kL5),g1),(a1,t1),(a2,t2),((wA .u8 k1 (N1 ++ [77])),(5,(0,0))),((wA .u8 k2 (N2 ++ [77])),(5,(0,0))),((wA .u8 32 Z1),(25,(0,0))),((wA .u8 64 Z2),(29,(0,0))),((wA .u8 32 Z3),(25,(0,0)))] b2 l2)))))=true:=(decide_eq_true (by rw[hA.2,hB.2,hZ3]))
  exact rn_ev (yty.enm tabM6 [mMask] 2000004) mhA_h mixed _ none [none,none,some (.bool true),some (.bool true),some (.bool true)] [(4,((wA .u8 k1 (N1 ++ [77]))=wA .u8 k1 ((bytesOf [((wA .u32 64 kL2),g0),((wA .u64 80 kL5),g1),(a1,t1),(a2,t2),((wA .u8 k1 (N1 ++ [77])),(5,(0,0))),((wA .u8 k2 (N2 ++ [77])),(5,(0,0))),((wA .u8 32 Z1),(25,(0,0))),((wA .u8 64 Z2),(29,(0,0))),((wA .u8 32 Z3),(25,(0,0)))] b1 l1) ++ [77])∧l1=l1∧BytesOk [((wA .u32 64 kL2),g0),((wA .u64 80 kL5),g1),(a1,t1),(a2,t2),((wA .u8 k1 (N1 ++ [77])),(5,(0,0))),((wA .u8 k2 (N2 ++ [77])),(5,(0,0))),((wA .u8 32 Z1),(25,(0,0))),((wA .u8 64 Z2),(29,(0,0))),((wA .u8 32 Z3),(25,(0,0)))] b1 l1 c1∧l1≤100000000∧l1+1≤k1)),(6,((wA .u8 k2 (N2 ++ [77]))=wA .u8 k2 ((bytesOf [((wA .u32 64 kL2),g0),((wA .u64 80 kL5),g1),(a1,t1),(a2,t2),((wA .u8 k1 (N1 ++ [77])),(5,(0,0))),((wA .u8 k2 (N2 ++ [77])),(5,(0,0))),((wA .u8 32 Z1),(25,(0,0))),((wA .u8 64 Z2),(29,(0,0))),((wA .u8 32 Z3),(25,(0,0)))] b2 l2) ++ [77])∧l2=l2∧BytesOk [((wA .u32 64 kL2),g0),((wA .u64 80 kL5),g1),(a1,t1),(a2,t2),((wA .u8 k1 (N1 ++ [77])),(5,(0,0))),((wA .u8 k2 (N2 ++ [77])),(5,(0,0))),((wA .u8 32 Z1),(25,(0,0))),((wA .u8 64 Z2),(29,(0,0))),((wA .u8 32 Z3),(25,(0,0)))] b2 l2 c2∧l2≤100000000∧l2+1≤k2)),(10,((wA .u32 64 kL2)=wA .u32 64 kL2∧(wA .u64 80 kL5)=wA .u64 80 kL5∧BytesOk [((wA .u32 64 kL2),g0),((wA .u64 80 kL5),g1),(a1,t1),(a2,t2),((wA .u8 k1 (N1 ++ [77])),(5,(0,0))),((wA .u8 k2 (N2 ++ [77])),(5,(0,0))),((wA .u8 32 Z1),(25,(0,0))),((wA .u8 64 Z2),(29,(0,0))),((wA .u8 32 Z3),(25,(0,0)))] b1 l1 c1∧BytesOk [((wA .u32 64 kL2),g0),((wA .u64 80 kL5),g1),(a1,t1),(a2,t2),((wA .u8 k1 (N1 ++ [77])),(5,(0,0))),((wA .u8 k2 (N2 ++ [77])),(5,(0,0))),((wA .u8 32 Z1),(25,(0,0))),((wA .u8 64 Z2),(29,(0,0))),((wA .u8 32 Z3),(25,(0,0)))] b2 l2 c2∧l1≤100000000∧l2≤100000000)),(0,((byD.is (wA .u8 32 Z1)∧byD.is (wA .u8 32 (hmac2 (bytesOf [((wA .u32 64 kL2),g0),((wA .u64 80 kL5),g1),(a1,t1),(a2,t2),((wA .u8 k1 (N1 ++ [77])),(5,(0,0))),((wA .u8 k2 (N2 ++ [77])),(5,(0,0))),((wA .u8 32 Z1),(25,(0,0))),((wA .u8 64 Z2),(29,(0,0))),((wA .u8 32 Z3),(25,(0,0)))] b1 l1) (bytesOf [((wA .u32 64 kL2),g0),((wA .u64 80 kL5),g1),(a1,t1),(a2,t2),((wA .u8 k1 (N1 ++ [77])),(5,(0,0))),((wA .u8 k2 (N2 ++ [77])),(5,(0,0))),((wA .u8 32 Z1),(25,(0,0))),((wA .u8 64 Z2),(29,(0,0))),((wA .u8 32 Z3),(25,(0,0)))] b2 l2))))∧(decide (db (wA .u8 32 Z1)=db (wA .u8 32 (hmac2 (bytesOf [((wA .u32 64 kL2),g0),((wA .u64 80 kL5),g1),(a1,t1),(a2,t2),((wA .u8 k1 (N1 ++ [77])),(5,(0,0))),((wA .u8 k2 (N2 ++ [77])),(5,(0,0))),((wA .u8 32 Z1),(25,(0,0))),((wA .u8 64 Z2),(29,(0,0))),((wA .u8 32 Z3),(25,(0,0)))] b1 l1) (bytesOf [((wA .u32 64 kL2),g0),((wA .u64 80 kL5),g1),(a1,t1),(a2,t2),((wA .u8 k1 (N1 ++ [77])),(5,(0,0))),((wA .u8 k2 (N2 ++ [77])),(5,(0,0))),((wA .u8 32 Z1),(25,(0,0))),((wA .u8 64 Z2),(29,(0,0))),((wA .u8 32 Z3),(25,(0,0)))] b2 l2)))))=true)),(10,((wA .u32 64 kL2)=wA .u32 64 kL2∧(wA .u64 80 kL5)=wA .u64 80 kL5∧BytesOk [((wA .u32 64 kL2),g0),((wA .u64 80 kL5),g1),(a1,t1),(a2,t2),((wA .u8 k1 (N1 ++ [77])),(5,(0,0))),((wA .u8 k2 (N2 ++ [77])),(5,(0,0))),((wA .u8 32 Z1),(25,(0,0))),((wA .u8 64 Z2),(29,(0,0))),((wA .u8 32 Z3),(25,(0,0)))] b1 l1 c1∧BytesOk [((wA .u32 64 kL2),g0),((wA .u64 80 kL5),g1),(a1,t1),(a2,t2),((wA .u8 k1 (N1 ++ [77])),(5,(0,0))),((wA .u8 k2 (N2 ++ [77])),(5,(0,0))),((wA .u8 32 Z1),(25,(0,0))),((wA .u8 64 Z2),(29,(0,0))),((wA .u8 32 Z3),(25,(0,0)))] b2 l2 c2∧l1≤100000000∧l2≤100000000)),(0,((isBL 64 (wA .u8 64 Z2)∧isBL 64 (wA .u8 64 (hmac5 (bytesOf [((wA .u32 64 kL2),g0),((wA .u64 80 kL5),g1),(a1,t1),(a2,t2),((wA .u8 k1 (N1 ++ [77])),(5,(0,0))),((wA .u8 k2 (N2 ++ [77])),(5,(0,0))),((wA .u8 32 Z1),(25,(0,0))),((wA .u8 64 Z2),(29,(0,0))),((wA .u8 32 Z3),(25,(0,0)))] b1 l1) (bytesOf [((wA .u32 64 kL2),g0),((wA .u64 80 kL5),g1),(a1,t1),(a2,t2),((wA .u8 k1 (N1 ++ [77])),(5,(0,0))),((wA .u8 k2 (N2 ++ [77])),(5,(0,0))),((wA .u8 32 Z1),(25,(0,0))),((wA .u8 64 Z2),(29,(0,0))),((wA .u8 32 Z3),(25,(0,0)))] b2 l2))))∧(intsOf (wA .u8 64 Z2) == intsOf (wA .u8 64 (hmac5 (bytesOf [((wA .u32 64 kL2),g0),((wA .u64 80 kL5),g1),(a1,t1),(a2,t2),((wA .u8 k1 (N1 ++ [77])),(5,(0,0))),((wA .u8 k2 (N2 ++ [77])),(5,(0,0))),((wA .u8 32 Z1),(25,(0,0))),((wA .u8 64 Z2),(29,(0,0))),((wA .u8 32 Z3),(25,(0,0)))] b1 l1) (bytesOf [((wA .u32 64 kL2),g0),((wA .u64 80 kL5),g1),(a1,t1),(a2,t2),((wA .u8 k1 (N1 ++ [77])),(5,(0,0))),((wA .u8 k2 (N2 ++ [77])),(5,(0,0))),((wA .u8 32 Z1),(25,(0,0))),((wA .u8 64 Z2),(29,(0,0))),((wA .u8 32 Z3),(25,(0,0)))] b2 l2))))=true)),(10,((wA .u32 64 kL2)=wA .u32 64 kL2∧(wA .u64 80 kL5)=wA .u64 80 kL5∧BytesOk [((wA .u32 64 kL2),g0),((wA .u64 80 kL5),g1),(a1,t1),(a2,t2),((wA .u8 k1 (N1 ++ [77])),(5,(0,0))),((wA .u8 k2 (N2 ++ [77])),(5,(0,0))),((wA .u8 32 Z1),(25,(0,0))),((wA .u8 64 Z2),(29,(0,0))),((wA .u8 32 Z3),(25,(0,0)))] b1 l1 c1∧BytesOk [((wA .u32 64 kL2),g0),((wA .u64 80 kL5),g1),(a1,t1),(a2,t2),((wA .u8 k1 (N1 ++ [77])),(5,(0,0))),((wA .u8 k2 (N2 ++ [77])),(5,(0,0))),((wA .u8 32 Z1),(25,(0,0))),((wA .u8 64 Z2),(29,(0,0))),((wA .u8 32 Z3),(25,(0,0)))] b2 l2 c2∧l1≤100000000∧l2≤100000000)),(0,((byD.is (wA .u8 32 Z3)∧byD.is (wA .u8 32 (hmac2 (bytesOf [((wA .u32 64 kL2),g0),((wA .u64 80 kL5),g1),(a1,t1),(a2,t2),((wA .u8 k1 (N1 ++ [77])),(5,(0,0))),((wA .u8 k2 (N2 ++ [77])),(5,(0,0))),((wA .u8 32 Z1),(25,(0,0))),((wA .u8 64 Z2),(29,(0,0))),((wA .u8 32 Z3),(25,(0,0)))] b1 l1) (bytesOf [((wA .u32 64 kL2),g0),((wA .u64 80 kL5),g1),(a1,t1),(a2,t2),((wA .u8 k1 (N1 ++ [77])),(5,(0,0))),((wA .u8 k2 (N2 ++ [77])),(5,(0,0))),((wA .u8 32 Z1),(25,(0,0))),((wA .u8 64 Z2),(29,(0,0))),((wA .u8 32 Z3),(25,(0,0)))] b2 l2))))∧(decide (db (wA .u8 32 Z3)=db (wA .u8 32 (hmac2 (bytesOf [((wA .u32 64 kL2),g0),((wA .u64 80 kL5),g1),(a1,t1),(a2,t2),((wA .u8 k1 (N1 ++ [77])),(5,(0,0))),((wA .u8 k2 (N2 ++ [77])),(5,(0,0))),((wA .u8 32 Z1),(25,(0,0))),((wA .u8 64 Z2),(29,(0,0))),((wA .u8 32 Z3),(25,(0,0)))] b1 l1) (bytesOf [((wA .u32 64 kL2),g0),((wA .u64 80 kL5),g1),(a1,t1),(a2,t2),((wA .u8 k1 (N1 ++ [77])),(5,(0,0))),((wA .u8 k2 (N2 ++ [77])),(5,(0,0))),((wA .u8 32 Z1),(25,(0,0))),((wA .u8 64 Z2),(29,(0,0))),((wA .u8 32 Z3),(25,(0,0)))] b2 l2)))))=true)),(4,((wA .u32 64 kL2)=wA .u32 64 kL2∧(wA .u64 80 kL5)=wA .u64 80 kL5))] 2 (fun j M=>by kernel_rfl) (A1 ⟨by rw[hA.2],rfl,hA.1,by omega,by omega⟩ (A1 ⟨by rw[hB.2],rfl,hB.1,by omega,by omega⟩ (A1 ⟨rfl,rfl,hA.1,hB.1,by omega,by omega⟩ (A1 ⟨⟨by rw[hZ1];exact by_is (hmac2_len _ _) (hmac2_bt _ _),by_is (hmac2_len _ _) (hmac2_bt _ _)⟩,h2⟩ (A1 ⟨rfl,rfl,hA.1,hB.1,by omega,by omega⟩ (A1 ⟨⟨⟨Z2,by rw[hZ2];exact hmac5_len _ _,wA_iv (by rw[hZ2];exact hmac5_len _ _)⟩,⟨_,hmac5_len _ _,wA_iv (hmac5_len _ _)⟩⟩,h3⟩ (A1 ⟨rfl,rfl,hA.1,hB.1,by omega,by omega⟩ (A1 ⟨⟨by rw[hZ3];exact by_is (hmac2_len _ _) (hmac2_bt _ _),by_is (hmac2_len _ _) (hmac2_bt _ _)⟩,h4⟩ (A1 ⟨rfl,rfl⟩ A0))))))))) rfl
theorem mhu':mhA_R [] (mhA k_1) .ret (fun z_=>∃(k12 k22:Nat) (k_2:mhC_c k_1 k12 k22) (k_3:mhD_c k_2 (hmac2 (bL (wA .u8 k12 (N1 ++ [77])) 0 l1) (bL (wA .u8 k22 (N2 ++ [77])) 0 l2)) (hmac5 (bL (wA .u8 k12 (N1 ++ [77])) 0 l1) (bL (wA .u8 k22 (N2 ++ [77])) 0 l2)) (hmac2 (bL (wA .u8 k12 (N1 ++ [77])) 0 l1) (bL (wA .u8 k22 (N2 ++ [77])) 0 l2))),z_=mhE k_3):=by
  refine rn_seq (w:= []) (by kernel_rfl) mh0 ?_
  rintro _ rfl
  refine rn_seq (w:= [1]) (by kernel_rfl) mh1 ?_
  rintro _ rfl
  refine rn_seq (w:= [1,1]) (by kernel_rfl) mh3 ?_
  rintro _ ⟨k12,k22,k_2,rfl⟩
  refine rn_seq (w:= [1,1,1]) (by kernel_rfl) mh4 ?_
  rintro _ ⟨k_3,rfl⟩
  exact(mh5).mono fun _ e_=>⟨k12,k22,k_2,k_3,e_⟩
abbrev mhA_s (g0 g1 t1 t2:Tq) (a1 a2:Array Value) (b1 b2:Option Addr) (l1 c1 l2 c2:Nat) (N1 N2:List Int) (j:Nat→Value):List Value:=([.slice b1 l1 c1,.slice b2 l2 c2] ++ (JU 62))
abbrev mhA_m (g0 g1 t1 t2:Tq) (a1 a2:Array Value) (b1 b2:Option Addr) (l1 c1 l2 c2:Nat) (N1 N2:List Int):List Mb:= [((wA .u32 64 kL2),g0),((wA .u64 80 kL5),g1),(a1,t1),(a2,t2)]
abbrev mhE_s (g0 g1 t1 t2:Tq) (a1 a2:Array Value) (b1 b2:Option Addr) (l1 c1 l2 c2:Nat) (N1 N2:List Int) (k1 k2:Nat) (Z1 Z2 Z3:List Int) (j:Nat→Value):List Value:=(J j 0 4 ++ ([.bool true] ++ (J j 5 59)))
abbrev mhE_m (g0 g1 t1 t2:Tq) (a1 a2:Array Value) (b1 b2:Option Addr) (l1 c1 l2 c2:Nat) (N1 N2:List Int) (k1 k2:Nat) (Z1 Z2 Z3:List Int):List Mb:= [((wA .u32 64 kL2),g0),((wA .u64 80 kL5),g1),(a1,t1),(a2,t2),((wA .u8 k1 (N1 ++ [77])),(5,(0,0))),((wA .u8 k2 (N2 ++ [77])),(5,(0,0))),((wA .u8 32 Z1),(25,(0,0))),((wA .u8 64 Z2),(29,(0,0))),((wA .u8 32 Z3),(25,(0,0)))]
theorem mhu (g0 g1 t1 t2:Tq) (a1 a2:Array Value) (b1 b2:Option Addr) (l1 c1 l2 c2:Nat) (N1 N2:List Int) (j:Nat→Value) (hk:BytesOk [(wA .u32 64 kL2,g0),(wA .u64 80 kL5,g1),(a1,t1),(a2,t2)] b1 l1 c1) (hN1:bytesOf [(wA .u32 64 kL2,g0),(wA .u64 80 kL5,g1),(a1,t1),(a2,t2)] b1 l1=N1) (ht:BytesOk [(wA .u32 64 kL2,g0),(wA .u64 80 kL5,g1),(a1,t1),(a2,t2)] b2 l2 c2) (hN2:bytesOf [(wA .u32 64 kL2,g0),(wA .u64 80 kL5,g1),(a1,t1),(a2,t2)] b2 l2=N2) (hl:l1≤2000∧l2≤2000)  :Runs Tryd.prog (cAt [] (bdy Tryd.f4)) ⟨mhA_s g0 g1 t1 t2 a1 a2 b1 b2 l1 c1 l2 c2 N1 N2 j,mhA_m g0 g1 t1 t2 a1 a2 b1 b2 l1 c1 l2 c2 N1 N2,c0,ch0⟩ (fun e s=>e= .ret∧∃(k12:Nat) (k22:Nat),∃j c ch,((N1 ++ [77]).length≤k12)∧((N2 ++ [77]).length≤k22)∧((hmac2 (bL (wA .u8 k12 (N1 ++ [77])) 0 l1) (bL (wA .u8 k22 (N2 ++ [77])) 0 l2))=hmac2 N1 N2)∧((hmac5 (bL (wA .u8 k12 (N1 ++ [77])) 0 l1) (bL (wA .u8 k22 (N2 ++ [77])) 0 l2))=hmac5 N1 N2)∧((hmac2 (bL (wA .u8 k12 (N1 ++ [77])) 0 l1) (bL (wA .u8 k22 (N2 ++ [77])) 0 l2))=hmac2 N1 N2)∧s=⟨mhE_s g0 g1 t1 t2 a1 a2 b1 b2 l1 c1 l2 c2 N1 N2 k12 k22 (hmac2 (bL (wA .u8 k12 (N1 ++ [77])) 0 l1) (bL (wA .u8 k22 (N2 ++ [77])) 0 l2)) (hmac5 (bL (wA .u8 k12 (N1 ++ [77])) 0 l1) (bL (wA .u8 k22 (N2 ++ [77])) 0 l2)) (hmac2 (bL (wA .u8 k12 (N1 ++ [77])) 0 l1) (bL (wA .u8 k22 (N2 ++ [77])) 0 l2)) j,mhE_m g0 g1 t1 t2 a1 a2 b1 b2 l1 c1 l2 c2 N1 N2 k12 k22 (hmac2 (bL (wA .u8 k12 (N1 ++ [77])) 0 l1) (bL (wA .u8 k22 (N2 ++ [77])) 0 l2)) (hmac5 (bL (wA .u8 k12 (N1 ++ [77])) 0 l1) (bL (wA .u8 k22 (N2 ++ [77])) 0 l2)) (hmac2 (bL (wA .u8 k12 (N1 ++ [77])) 0 l1) (bL (wA .u8 k22 (N2 ++ [77])) 0 l2)),c,ch⟩) 2000004:=by
  refine(Rn.old (mhu' (k_1:=(⟨hk,hN1,ht,hN2,hl⟩:mhA_c g0 g1 t1 t2 a1 a2 b1 b2 l1 c1 l2 c2 N1 N2))) j (by kernel_rfl)).mono ?_
  rintro e s ⟨rfl,_,⟨k12,k22,k_2,k_3,rfl⟩,j,c,ch,rfl⟩
  have⟨x_hk1,x_hk2⟩:=k_2
  have⟨x_hZ1,x_hZ2,x_hZ3⟩:=k_3
  exact⟨rfl,k12,k22,j,c,ch,x_hk1,x_hk2,x_hZ1,x_hZ2,x_hZ3,by kernel_rfl⟩
structure mlA_c (g0 g1 t1 t2:Tq) (a1 a2:Array Value) (b1 b2:Option Addr) (l1 c1 l2 c2:Nat) (N1 N2:List Int):Prop where
  hl:2000<l1
variable {k_4:mlA_c g0 g1 t1 t2 a1 a2 b1 b2 l1 c1 l2 c2 N1 N2}
abbrev mlA (_:mlA_c g0 g1 t1 t2 a1 a2 b1 b2 l1 c1 l2 c2 N1 N2):FS:=⟨true,64,[(0,.slice b1 l1 c1),(1,.slice b2 l2 c2)],[((wA .u32 64 kL2),g0),((wA .u64 80 kL5),g1),(a1,t1),(a2,t2)]⟩
abbrev mlB (_:mlA_c g0 g1 t1 t2 a1 a2 b1 b2 l1 c1 l2 c2 N1 N2):FS:=⟨false,64,[(0,.slice b1 l1 c1),(1,.slice b2 l2 c2),(4,.bool false)],[((wA .u32 64 kL2),g0),((wA .u64 80 kL5),g1),(a1,t1),(a2,t2)]⟩
abbrev mlC (_:mlA_c g0 g1 t1 t2 a1 a2 b1 b2 l1 c1 l2 c2 N1 N2):FS:=⟨false,64,[(4,.bool true)],[((wA .u32 64 kL2),g0),((wA .u64 80 kL5),g1),(a1,t1),(a2,t2)]⟩
theorem ml0:mhA_R [0] (mlA k_4) .normal (fun z_=>z_=mlB k_4):=rn_ev (yty.enm tabM6 [mMask] 2000004) mhA_h mixed _ none [] [] 1 (fun j M=>by kernel_rfl) A0 rfl
theorem ml1:mhA_R [1,0] (mlB k_4) .ret (fun z_=>z_=mlC k_4):=by
  have⟨hl⟩:=id k_4
  exact rn_ev (yty.enm tabM6 [mMask] 2000004) mhA_h mixed _ none [some (.bool true)] [(5,(decide (2000<(l1:Int)))=true),(4,((wA .u32 64 kL2)=wA .u32 64 kL2∧(wA .u64 80 kL5)=wA .u64 80 kL5))] 1 (fun j M=>by kernel_rfl) (A1 (decide_eq_true (by omega)) (A1 ⟨rfl,rfl⟩ A0)) rfl
theorem mlv':mhA_R [] (mlA k_4) .ret (fun z_=>z_=mlC k_4):=by
  refine rn_seq (w:= []) (by kernel_rfl) ml0 ?_
  rintro _ rfl
  exact rn_seqx (w:= [1]) (by kernel_rfl) (ml1) (by simp)
abbrev mlA_s (g0 g1 t1 t2:Tq) (a1 a2:Array Value) (b1 b2:Option Addr) (l1 c1 l2 c2:Nat) (N1 N2:List Int) (j:Nat→Value):List Value:=([.slice b1 l1 c1,.slice b2 l2 c2] ++ (JU 62))
abbrev mlA_m (g0 g1 t1 t2:Tq) (a1 a2:Array Value) (b1 b2:Option Addr) (l1 c1 l2 c2:Nat) (N1 N2:List Int):List Mb:= [((wA .u32 64 kL2),g0),((wA .u64 80 kL5),g1),(a1,t1),(a2,t2)]
abbrev mlC_s (g0 g1 t1 t2:Tq) (a1 a2:Array Value) (b1 b2:Option Addr) (l1 c1 l2 c2:Nat) (N1 N2:List Int) (j:Nat→Value):List Value:=(J j 0 4 ++ ([.bool true] ++ (J j 5 59)))
abbrev mlC_m (g0 g1 t1 t2:Tq) (a1 a2:Array Value) (b1 b2:Option Addr) (l1 c1 l2 c2:Nat) (N1 N2:List Int):List Mb:= [((wA .u32 64 kL2),g0),((wA .u64 80 kL5),g1),(a1,t1),(a2,t2)]
theorem mlv (g0 g1 t1 t2:Tq) (a1 a2:Array Value) (b1 b2:Option Addr) (l1 c1 l2 c2:Nat) (N1 N2:List Int) (j:Nat→Value) (hl:2000<l1)  :Runs Tryd.prog (cAt [] (bdy Tryd.f4)) ⟨mlA_s g0 g1 t1 t2 a1 a2 b1 b2 l1 c1 l2 c2 N1 N2 j,mlA_m g0 g1 t1 t2 a1 a2 b1 b2 l1 c1 l2 c2 N1 N2,c0,ch0⟩ (fun e s=>e= .ret∧∃j c ch,s=⟨mlC_s g0 g1 t1 t2 a1 a2 b1 b2 l1 c1 l2 c2 N1 N2 j,mlC_m g0 g1 t1 t2 a1 a2 b1 b2 l1 c1 l2 c2 N1 N2,c,ch⟩) 2000004:=by
  refine(Rn.old (mlv' (k_4:=(⟨hl⟩:mlA_c g0 g1 t1 t2 a1 a2 b1 b2 l1 c1 l2 c2 N1 N2))) j (by kernel_rfl)).mono ?_
  rintro e s ⟨rfl,_,rfl,j,c,ch,rfl⟩
  exact⟨rfl,j,c,ch,by kernel_rfl⟩
structure mmA_c (g0 g1 t1 t2:Tq) (a1 a2:Array Value) (b1 b2:Option Addr) (l1 c1 l2 c2:Nat) (N1 N2:List Int):Prop where
  hl1:l1≤2000
  hl:2000<l2
variable {k_5:mmA_c g0 g1 t1 t2 a1 a2 b1 b2 l1 c1 l2 c2 N1 N2}
abbrev mmA (_:mmA_c g0 g1 t1 t2 a1 a2 b1 b2 l1 c1 l2 c2 N1 N2):FS:=⟨true,64,[(0,.slice b1 l1 c1),(1,.slice b2 l2 c2)],[((wA .u32 64 kL2),g0),((wA .u64 80 kL5),g1),(a1,t1),(a2,t2)]⟩
abbrev mmB (_:mmA_c g0 g1 t1 t2 a1 a2 b1 b2 l1 c1 l2 c2 N1 N2):FS:=⟨false,64,[(0,.slice b1 l1 c1),(1,.slice b2 l2 c2),(4,.bool false)],[((wA .u32 64 kL2),g0),((wA .u64 80 kL5),g1),(a1,t1),(a2,t2)]⟩
abbrev mmC (_:mmA_c g0 g1 t1 t2 a1 a2 b1 b2 l1 c1 l2 c2 N1 N2):FS:=⟨false,64,[(4,.bool true)],[((wA .u32 64 kL2),g0),((wA .u64 80 kL5),g1),(a1,t1),(a2,t2)]⟩
theorem mm0:mhA_R [0] (mmA k_5) .normal (fun z_=>z_=mmB k_5):=rn_ev (yty.enm tabM6 [mMask] 2000004) mhA_h mixed _ none [] [] 1 (fun j M=>by kernel_rfl) A0 rfl
theorem mm1:mhA_R [1,0] (mmB k_5) .ret (fun z_=>z_=mmC k_5):=by
  have⟨hl1,hl⟩:=id k_5
  exact rn_ev (yty.enm tabM6 [mMask] 2000004) mhA_h mixed _ none [some (.bool false),some (.bool true)] [(5,(decide (2000<(l1:Int)))=false),(7,(decide (2000<(l2:Int)))=true),(2,((wA .u32 64 kL2)=wA .u32 64 kL2∧(wA .u64 80 kL5)=wA .u64 80 kL5))] 1 (fun j M=>by kernel_rfl) (A1 (decide_eq_false (by omega)) (A1 (decide_eq_true (by omega)) (A1 ⟨rfl,rfl⟩ A0))) rfl
theorem mmv':mhA_R [] (mmA k_5) .ret (fun z_=>z_=mmC k_5):=by
  refine rn_seq (w:= []) (by kernel_rfl) mm0 ?_
  rintro _ rfl
  exact rn_seqx (w:= [1]) (by kernel_rfl) (mm1) (by simp)
abbrev mmA_s (g0 g1 t1 t2:Tq) (a1 a2:Array Value) (b1 b2:Option Addr) (l1 c1 l2 c2:Nat) (N1 N2:List Int) (j:Nat→Value):List Value:=([.slice b1 l1 c1,.slice b2 l2 c2] ++ (JU 62))
abbrev mmA_m (g0 g1 t1 t2:Tq) (a1 a2:Array Value) (b1 b2:Option Addr) (l1 c1 l2 c2:Nat) (N1 N2:List Int):List Mb:= [((wA .u32 64 kL2),g0),((wA .u64 80 kL5),g1),(a1,t1),(a2,t2)]
abbrev mmC_s (g0 g1 t1 t2:Tq) (a1 a2:Array Value) (b1 b2:Option Addr) (l1 c1 l2 c2:Nat) (N1 N2:List Int) (j:Nat→Value):List Value:=(J j 0 4 ++ ([.bool true] ++ (J j 5 59)))
abbrev mmC_m (g0 g1 t1 t2:Tq) (a1 a2:Array Value) (b1 b2:Option Addr) (l1 c1 l2 c2:Nat) (N1 N2:List Int):List Mb:= [((wA .u32 64 kL2),g0),((wA .u64 80 kL5),g1),(a1,t1),(a2,t2)]
theorem mmv (g0 g1 t1 t2:Tq) (a1 a2:Array Value) (b1 b2:Option Addr) (l1 c1 l2 c2:Nat) (N1 N2:List Int) (j:Nat→Value) (hl1:l1≤2000) (hl:2000<l2)  :Runs Tryd.prog (cAt [] (bdy Tryd.f4)) ⟨mmA_s g0 g1 t1 t2 a1 a2 b1 b2 l1 c1 l2 c2 N1 N2 j,mmA_m g0 g1 t1 t2 a1 a2 b1 b2 l1 c1 l2 c2 N1 N2,c0,ch0⟩ (fun e s=>e= .ret∧∃j c ch,s=⟨mmC_s g0 g1 t1 t2 a1 a2 b1 b2 l1 c1 l2 c2 N1 N2 j,mmC_m g0 g1 t1 t2 a1 a2 b1 b2 l1 c1 l2 c2 N1 N2,c,ch⟩) 2000004:=by
  refine(Rn.old (mmv' (k_5:=(⟨hl1,hl⟩:mmA_c g0 g1 t1 t2 a1 a2 b1 b2 l1 c1 l2 c2 N1 N2))) j (by kernel_rfl)).mono ?_
  rintro e s ⟨rfl,_,rfl,j,c,ch,rfl⟩
  exact⟨rfl,j,c,ch,by kernel_rfl⟩
theorem LawHm_c (g0 g1 t1 t2:Tq) (a1 a2:Array Value) (b1 b2:Option Addr) (l1 c1 l2 c2:Nat) (hk:BytesOk [(wA .u32 64 kL2,g0),(wA .u64 80 kL5,g1),(a1,t1),(a2,t2)] b1 l1 c1) (ht:BytesOk [(wA .u32 64 kL2,g0),(wA .u64 80 kL5,g1),(a1,t1),(a2,t2)] b2 l2 c2):Reads Tryd.prog 4 [(wA .u32 64 kL2,g0),(wA .u64 80 kL5,g1),(a1,t1),(a2,t2)] [.slice b1 l1 c1,.slice b2 l2 c2] (.bool true) 2:=by
  refine reads_runs (fk:=2000004) (yty.enm tabM6 [mMask] 2000004) Tryd.func4 (c:=bdy Tryd.f4) (by kernel_rfl) ⟨len4 _ _ _ _,by decide⟩ (args:= [.slice b1 l1 c1,.slice b2 l2 c2]) (by show(Go.Ev.okp 4 (.slice b1 l1 c1) && (Go.Ev.okp 4 (.slice b2 l2 c2) && true))=true;rw[show Go.Ev.okp 4 (.slice b1 l1 c1)=true from hk.okp,show Go.Ev.okp 4 (.slice b2 l2 c2)=true from ht.okp];rfl) (K:=fun e s=>e= .ret∧resS (yty.enm tabM6 [mMask] 2000004) s Tryd.f4.results.toList=some [.bool true]) ?_ (fun e s h=>⟨h.1,_,h.2,rfl⟩)
  by_cases h1:2000<l1
  · refine (mlv g0 g1 t1 t2 a1 a2 b1 b2 l1 c1 l2 c2 [] [] (fun _ => undef) h1).mono ?_
    rintro e s ⟨rfl,j,c,ch,rfl⟩
    exact⟨rfl,by kernel_rfl⟩
  by_cases h2:2000<l2
  · refine (mmv g0 g1 t1 t2 a1 a2 b1 b2 l1 c1 l2 c2 [] [] (fun _ => undef) (by omega) h2).mono ?_
    rintro e s ⟨rfl,j,c,ch,rfl⟩
    exact⟨rfl,by kernel_rfl⟩
  refine(mhu g0 g1 t1 t2 a1 a2 b1 b2 l1 c1 l2 c2 _ _ (fun _=>undef) hk rfl ht rfl ⟨by omega,by omega⟩).mono ?_
  rintro e s ⟨rfl,hh⟩
  obtain⟨k1,k2,j,c,ch,q1,q2,q3,q4,q5,rfl⟩:=hh
  exact⟨rfl,by kernel_rfl⟩
end Go.Proofs.YtcfnjcacdmkgbaaDoor
