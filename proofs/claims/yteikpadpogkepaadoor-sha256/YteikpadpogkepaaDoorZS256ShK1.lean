import Derived.Test.YteikpadpogkepaaDoorZS256ShI1
set_option linter.unusedSimpArgs false
set_option linter.unusedVariables false
/-! abc, nothing, a text of two blocks. -/
namespace Go.Proofs.YteikpadpogkepaaDoor
open Go.RowKit Go.Ev
def kS0:ByteArray:=⟨#[186,120,22,191,143,1,207,234,65,65,64,222,93,174,34,35,176,3,97,163,150,23,122,156,180,16,255,97,242,0,21,173]⟩
def kS1:ByteArray:=⟨#[221,175,53,161,147,97,122,186]⟩
theorem readsT {P:Program} {f:FuncId} {x0 x1 cs:Array Value} {g0 g1 t:Tq} {o l c:Nat} {v:Value} (h:Reads P f [(x0,g0),(x1,g1),(cs,t)] [.slice (some ⟨2,o,none⟩) l c] v 2) {mem:List Mb} {i:Nat} (h0:mem[0]? =some (x0,g0)) (h1:mem[1]? =some (x1,g1)) (hm:mem[i]? =some (cs,t)) {w:World} {β:Nat→Nat} (hw:Has w β mem) (b0:β 0=0) (b1:β 1=1):Calls P f ([Value.slice (some ⟨i,o,none⟩) l c].map (rn β)).toArray w (fun e w'=>e= .returned v∧Below w.heap.size w w'):=
  h w (fun j => if j = 2 then β i else β j) (fun j x hx => by
    match j,hx with
    | 0, hx =>
      simp only[List.getElem?_cons_zero,Option.some.injEq] at hx
      subst hx
      exact hw 0 _ h0
    | 1, hx =>
      simp only[List.getElem?_cons_succ,List.getElem?_cons_zero,Option.some.injEq] at hx
      subst hx
      exact hw 1 _ h1
    | 2, hx =>
      simp only[List.getElem?_cons_succ,List.getElem?_cons_zero,Option.some.injEq] at hx
      subst hx
      exact hw i _ hm
    |j+3,hx=>simp at hx) (fun j hj=>by
    match j,hj with
    |0,_=>exact b0
    |1,_=>exact b1
    |j+2,hj=>omega)
theorem readsN {P:Program} {f:FuncId} {x0 x1:Array Value} {g0 g1:Tq} {args:List Value} (ha:args.all np=true) {v:Value} (h:Reads P f [(x0,g0),(x1,g1)] args v 2) {mem:List Mb} (h0:mem[0]? =some (x0,g0)) (h1:mem[1]? =some (x1,g1)) {w:World} {β:Nat→Nat} (hw:Has w β mem) (b0:β 0=0) (b1:β 1=1):Calls P f (args.map (rn β)).toArray w (fun e w'=>e= .returned v∧Below w.heap.size w w'):=
  h w β (fun j x hx => by
    match j,hx with
    | 0, hx =>
      simp only[List.getElem?_cons_zero,Option.some.injEq] at hx
      subst hx
      exact hw 0 _ h0
    | 1, hx =>
      simp only[List.getElem?_cons_succ,List.getElem?_cons_zero,Option.some.injEq] at hx
      subst hx
      exact hw 1 _ h1
    |j+2,hx=>simp at hx) (fun j hj=>by
    match j,hj with
    |0,_=>exact b0
    |1,_=>exact b1
    |j+2,hj=>omega)
def pSm2 : Entry Tryd.prog where
  f:=11
  ng:=2
  g := fun mem xs => match xs with
    | [.slice (some ⟨i, o, none⟩) l c] => (match mem[0]?, mem[1]?, mem[i]? with
      |some (x0,_),some (x1,_),some (a,_)=>some (.agg (wA .u8 32 (sum2 a o l)),(x0=wA .u32 64 kL2∧x1=wA .u64 80 kL5∧bytesAt a o l∧o+l≤a.size∧l≤c∧l<1152921504606846976))
      |_,_,_=>none)
    | [.slice none 0 0] => (match mem[0]?, mem[1]? with
      |some (x0,_),some (x1,_)=>some (.agg (wA .u8 32 sumN2),(x0=wA .u32 64 kL2∧x1=wA .u64 80 kL5))
      |_,_=>none)
    |_=>none
  ok := fun mem xs v c e hc w β hw hg => by
    split at e
    · rename_i i o l c0
      split at e
      · rename_i x0 g0 x1 g1 a t h0 h1 hm
        simp only[Option.some.injEq,Prod.mk.injEq] at e
        obtain⟨rfl,rfl⟩:=e
        obtain⟨rfl,rfl,hb,hz,hcp,hl⟩:=hc
        exact readsT (Sum2_c a g0 g1 t o l c0 hb hz hcp hl) h0 h1 hm hw (hg 0 (by decide)) (hg 1 (by decide))
      · cases e
    · split at e
      · rename_i x0 g0 x1 g1 h0 h1
        simp only[Option.some.injEq,Prod.mk.injEq] at e
        obtain⟨rfl,rfl⟩:=e
        obtain⟨rfl,rfl⟩:=hc
        exact readsN rfl (SumN2_c g0 g1) h0 h1 hw (hg 0 (by decide)) (hg 1 (by decide))
      · cases e
    · cases e
  call:=call_of Tryd.func11 (by kernel_rfl) (by kernel_rfl)
def pSm5 : Entry Tryd.prog where
  f:=13
  ng:=2
  g := fun mem xs => match xs with
    | [.slice (some ⟨i, o, none⟩) l c] => (match mem[0]?, mem[1]?, mem[i]? with
      |some (x0,_),some (x1,_),some (a,_)=>some (.agg (wA .u8 64 (sum5 a o l)),(x0=wA .u32 64 kL2∧x1=wA .u64 80 kL5∧bytesAt a o l∧o+l≤a.size∧l≤c∧l<1152921504606846976))
      |_,_,_=>none)
    | [.slice none 0 0] => (match mem[0]?, mem[1]? with
      |some (x0,_),some (x1,_)=>some (.agg (wA .u8 64 sumN5),(x0=wA .u32 64 kL2∧x1=wA .u64 80 kL5))
      |_,_=>none)
    |_=>none
  ok := fun mem xs v c e hc w β hw hg => by
    split at e
    · rename_i i o l c0
      split at e
      · rename_i x0 g0 x1 g1 a t h0 h1 hm
        simp only[Option.some.injEq,Prod.mk.injEq] at e
        obtain⟨rfl,rfl⟩:=e
        obtain⟨rfl,rfl,hb,hz,hcp,hl⟩:=hc
        exact readsT (Sum5_c a g0 g1 t o l c0 hb hz hcp hl) h0 h1 hm hw (hg 0 (by decide)) (hg 1 (by decide))
      · cases e
    · split at e
      · rename_i x0 g0 x1 g1 h0 h1
        simp only[Option.some.injEq,Prod.mk.injEq] at e
        obtain⟨rfl,rfl⟩:=e
        obtain⟨rfl,rfl⟩:=hc
        exact readsN rfl (SumN5_c g0 g1) h0 h1 hw (hg 0 (by decide)) (hg 1 (by decide))
      · cases e
    · cases e
  call:=call_of Tryd.func13 (by kernel_rfl) (by kernel_rfl)
def tabS8:List (Entry Tryd.prog):=pSm2 :: pSm5 :: tabS7
def kn6_h (i:Nat):Hn:=⟨0,[],[],[],[]⟩
def kn6_a (g0 g1:Tq):List Value:= [undef,undef,undef,undef,undef,undef,undef,undef,undef,undef,undef,undef,undef,undef,undef,undef,undef]
def kn6_b (g0 g1:Tq):List Value:= [.bool true,.pointer (some ⟨4,0,none⟩),.pointer (some ⟨5,0,none⟩),.slice (some ⟨2,0,none⟩) 3 3,.slice (some ⟨2,0,none⟩) 3 3,.agg (wA .u8 32 (sum2 (#[.int .u8 97,.int .u8 98,.int .u8 99]:Array Value) 0 3)),.slice (some ⟨3,0,none⟩) 3 3,.slice (some ⟨3,0,none⟩) 3 3,.agg (wA .u8 64 (sum5 (#[.int .u8 97,.int .u8 98,.int .u8 99]:Array Value) 0 3)),.slice (some ⟨4,0,none⟩) 32 32,.string (bstr ((wA .u8 32 (sum2 (#[.int .u8 97,.int .u8 98,.int .u8 99]:Array Value) 0 3)).extract 0 (0+32))),.bool true,.bool true,.slice (some ⟨5,0,none⟩) 8 64,.string (bstr ((wA .u8 64 (sum5 (#[.int .u8 97,.int .u8 98,.int .u8 99]:Array Value) 0 3)).extract 0 (0+8))),.bool true,.bool true]
theorem kn6_0 (g0 g1:Tq):evC (yty.enm tabS8 [mEnd] 2000002) kn6_h (cAt [] (bdy Tryd.f9)) ⟨kn6_a g0 g1,[((wA .u32 64 kL2),g0),((wA .u64 80 kL5),g1)],True,[some (.bool true),some (.bool true)]⟩=some (.ret,⟨kn6_b g0 g1,[((wA .u32 64 kL2),g0),((wA .u64 80 kL5),g1),((#[.int .u8 97,.int .u8 98,.int .u8 99]:Array Value),(5,(3,4))),((#[.int .u8 97,.int .u8 98,.int .u8 99]:Array Value),(5,(3,4))),((wA .u8 32 (sum2 (#[.int .u8 97,.int .u8 98,.int .u8 99]:Array Value) 0 3)),(25,(0,0))),((wA .u8 64 (sum5 (#[.int .u8 97,.int .u8 98,.int .u8 99]:Array Value) 0 3)),(28,(0,0)))],((((((((((((((True∧True)∧((wA .u32 64 kL2)=wA .u32 64 kL2∧(wA .u64 80 kL5)=wA .u64 80 kL5∧bytesAt (#[.int .u8 97,.int .u8 98,.int .u8 99]:Array Value) 0 3∧0+3≤(#[.int .u8 97,.int .u8 98,.int .u8 99]:Array Value).size∧3≤3∧3<1152921504606846976))∧((wA .u32 64 kL2)=wA .u32 64 kL2∧(wA .u64 80 kL5)=wA .u64 80 kL5∧bytesAt (#[.int .u8 97,.int .u8 98,.int .u8 99]:Array Value) 0 3∧0+3≤(#[.int .u8 97,.int .u8 98,.int .u8 99]:Array Value).size∧3≤3∧3<1152921504606846976))∧((wA .u8 32 (sum2 (#[.int .u8 97,.int .u8 98,.int .u8 99]:Array Value) 0 3)).all (fun v=>v.oneCell')=true))∧((wA .u8 64 (sum5 (#[.int .u8 97,.int .u8 98,.int .u8 99]:Array Value) 0 3)).all (fun v=>v.oneCell')=true))∧True)∧(((wA .u8 32 (sum2 (#[.int .u8 97,.int .u8 98,.int .u8 99]:Array Value) 0 3)).extract 0 (0+32)).all isB8=true∧0+32≤(wA .u8 32 (sum2 (#[.int .u8 97,.int .u8 98,.int .u8 99]:Array Value) 0 3)).size))∧(True∧(((bstr ((wA .u8 32 (sum2 (#[.int .u8 97,.int .u8 98,.int .u8 99]:Array Value) 0 3)).extract 0 (0+32)))).toList == (kS0).toList)=true))∧True)∧True)∧(((wA .u8 64 (sum5 (#[.int .u8 97,.int .u8 98,.int .u8 99]:Array Value) 0 3)).extract 0 (0+8)).all isB8=true∧0+8≤(wA .u8 64 (sum5 (#[.int .u8 97,.int .u8 98,.int .u8 99]:Array Value) 0 3)).size))∧(True∧(((bstr ((wA .u8 64 (sum5 (#[.int .u8 97,.int .u8 98,.int .u8 99]:Array Value) 0 3)).extract 0 (0+8)))).toList == (kS1).toList)=true))∧True)∧True),[]⟩):=by kernel_rfl
theorem kn6_r (g0 g1:Tq)   (q0:((wA .u32 64 kL2)=wA .u32 64 kL2∧(wA .u64 80 kL5)=wA .u64 80 kL5∧bytesAt (#[.int .u8 97,.int .u8 98,.int .u8 99]:Array Value) 0 3∧0+3≤(#[.int .u8 97,.int .u8 98,.int .u8 99]:Array Value).size∧3≤3∧3<1152921504606846976)) (q1:((wA .u32 64 kL2)=wA .u32 64 kL2∧(wA .u64 80 kL5)=wA .u64 80 kL5∧bytesAt (#[.int .u8 97,.int .u8 98,.int .u8 99]:Array Value) 0 3∧0+3≤(#[.int .u8 97,.int .u8 98,.int .u8 99]:Array Value).size∧3≤3∧3<1152921504606846976)) (q2:((wA .u8 32 (sum2 (#[.int .u8 97,.int .u8 98,.int .u8 99]:Array Value) 0 3)).all (fun v=>v.oneCell')=true)) (q3:((wA .u8 64 (sum5 (#[.int .u8 97,.int .u8 98,.int .u8 99]:Array Value) 0 3)).all (fun v=>v.oneCell')=true)) (q4:(((wA .u8 32 (sum2 (#[.int .u8 97,.int .u8 98,.int .u8 99]:Array Value) 0 3)).extract 0 (0+32)).all isB8=true∧0+32≤(wA .u8 32 (sum2 (#[.int .u8 97,.int .u8 98,.int .u8 99]:Array Value) 0 3)).size)) (q5:(((wA .u8 64 (sum5 (#[.int .u8 97,.int .u8 98,.int .u8 99]:Array Value) 0 3)).extract 0 (0+8)).all isB8=true∧0+8≤(wA .u8 64 (sum5 (#[.int .u8 97,.int .u8 98,.int .u8 99]:Array Value) 0 3)).size)) (h0:(((bstr ((wA .u8 32 (sum2 (#[.int .u8 97,.int .u8 98,.int .u8 99]:Array Value) 0 3)).extract 0 (0+32)))).toList == (kS0).toList)=true) (h1:(((bstr ((wA .u8 64 (sum5 (#[.int .u8 97,.int .u8 98,.int .u8 99]:Array Value) 0 3)).extract 0 (0+8)))).toList == (kS1).toList)=true) {c0:Prop} {ch0:List (Option Value)}:Runs Tryd.prog (cAt [] (bdy Tryd.f9)) ⟨kn6_a g0 g1,[((wA .u32 64 kL2),g0),((wA .u64 80 kL5),g1)],c0,ch0⟩ (fun e s=>e= .ret∧∃ c ch,s=⟨kn6_b g0 g1,[((wA .u32 64 kL2),g0),((wA .u64 80 kL5),g1),((#[.int .u8 97,.int .u8 98,.int .u8 99]:Array Value),(5,(3,4))),((#[.int .u8 97,.int .u8 98,.int .u8 99]:Array Value),(5,(3,4))),((wA .u8 32 (sum2 (#[.int .u8 97,.int .u8 98,.int .u8 99]:Array Value) 0 3)),(25,(0,0))),((wA .u8 64 (sum5 (#[.int .u8 97,.int .u8 98,.int .u8 99]:Array Value) 0 3)),(28,(0,0)))],c,ch⟩) 2000002:=by
  refine(runs_ev mixed [some (.bool true),some (.bool true)] (kn6_0 g0 g1 ) ⟨⟨⟨⟨⟨⟨⟨⟨⟨⟨⟨⟨⟨⟨trivial,trivial⟩,q0⟩,q1⟩,q2⟩,q3⟩,trivial⟩,q4⟩,⟨trivial,h0⟩⟩,trivial⟩,trivial⟩,q5⟩,⟨trivial,h1⟩⟩,trivial⟩,trivial⟩).mono ?_
  rintro e s ⟨rfl,rfl⟩
  exact⟨rfl,_,_,rfl⟩
end Go.Proofs.YteikpadpogkepaaDoor

set_option linter.unusedSimpArgs false
set_option linter.unusedVariables false
/-! The standard's examples. -/
namespace Go.Proofs.YteikpadpogkepaaDoor
open Go.RowKit Go.Ev
def okB (a:Array Value) (n:Nat):Bool:=(List.range n).all fun j=>match a[j]? with
  |some (.int .u8 x)=>decide (0≤x) && decide (x<256)
  |_=>false
theorem okB_at {a:Array Value} {n:Nat} (h:okB a n=true):bytesAt a 0 n:=fun j hj=>by
  have:=List.all_eq_true.1 h j (List.mem_range.2 hj)
  rw[Nat.zero_add]
  unfold iat
  split at this
  · rename_i x e
    simp only[Bool.and_eq_true,decide_eq_true_eq] at this
    rw[e]
    exact⟨rfl,this.1,this.2⟩
  · cases this
theorem abc2:sum2 (#[.int .u8 97,.int .u8 98,.int .u8 99]:Array Value) 0 3= [186,120,22,191,143,1,207,234,65,65,64,222,93,174,34,35,176,3,97,163,150,23,122,156,180,16,255,97,242,0,21,173]:=by kernel_rfl
theorem abc5:sum5 (#[.int .u8 97,.int .u8 98,.int .u8 99]:Array Value) 0 3= [221,175,53,161,147,97,122,186,204,65,115,73,174,32,65,49,18,230,250,78,137,169,126,162,10,158,238,230,75,85,211,154,33,146,153,42,39,79,193,168,54,186,60,35,163,254,235,189,69,77,68,35,100,60,232,14,42,154,201,79,165,76,164,159]:=by kernel_rfl
theorem txt_eq {b s:ByteArray} (h:b=s):(b.toList == s.toList)=true:=by rw[h];exact beq_self_eq_true _
theorem Known6_c (g0 g1:Tq):Reads Tryd.prog 9 [(wA .u32 64 kL2,g0),(wA .u64 80 kL5,g1)] [] (.bool true) 2:=by
  refine reads_runs (fk:=2000002) (yty.enm tabS8 [mEnd] 2000002) Tryd.func9 (c:=bdy Tryd.f9) (by kernel_rfl) ⟨len2 _ _,by decide⟩ rfl (K:=fun e s=>e= .ret∧resS (yty.enm tabS8 [mEnd] 2000002) s Tryd.f9.results.toList=some [.bool true]) ?_ (fun e s h=>⟨h.1,_,h.2,rfl⟩)
  refine(kn6_r g0 g1 ⟨rfl,rfl,okB_at (by kernel_rfl),by decide,by decide,by decide⟩ ⟨rfl,rfl,okB_at (by kernel_rfl),by decide,by decide,by decide⟩ (wA_one _ _ _) (wA_one _ _ _) (by rw[abc2];exact⟨by kernel_rfl,by rw[wA_size];omega⟩) (by rw[abc5];exact⟨by kernel_rfl,by rw[wA_size];omega⟩) (by rw[abc2];exact txt_eq (by kernel_rfl)) (by rw[abc5];exact txt_eq (by kernel_rfl))).mono ?_
  rintro e s ⟨rfl,c,ch,hs⟩
  rw[abc2,abc5] at hs
  subst hs
  exact⟨rfl,by kernel_rfl⟩
def pKn6 : Entry Tryd.prog where
  f:=9
  ng:=2
  g := fun mem xs => match xs with
    | [] => (match mem[0]?, mem[1]? with
      |some (x0,_),some (x1,_)=>some (.bool true,(x0=wA .u32 64 kL2∧x1=wA .u64 80 kL5))
      |_,_=>none)
    |_=>none
  ok := fun mem xs v c e hc w β hw hg => by
    split at e
    · split at e
      · rename_i x0 g0 x1 g1 h0 h1
        simp only[Option.some.injEq,Prod.mk.injEq] at e
        obtain⟨rfl,rfl⟩:=e
        obtain⟨rfl,rfl⟩:=hc
        exact readsN rfl (Known6_c g0 g1) h0 h1 hw (hg 0 (by decide)) (hg 1 (by decide))
      · cases e
    · cases e
  call:=call_of Tryd.func9 (by kernel_rfl) (by kernel_rfl)
def tabS9:List (Entry Tryd.prog):=pKn6 :: tabS8

end Go.Proofs.YteikpadpogkepaaDoor
