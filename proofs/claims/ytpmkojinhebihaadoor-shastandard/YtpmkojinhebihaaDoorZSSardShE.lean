import Derived.Test.YtpmkojinhebihaaDoorZSSardShD
set_option linter.unusedSimpArgs false
set_option linter.unusedVariables false
/-! A block more: the loop. -/
namespace Go.Proofs.YtpmkojinhebihaaDoor
open Go.RowKit Go.Ev
theorem len3 (x y z:Mb): [x,y,z].length=2000003%big:=by
  rw[show 2000003%big=3 by decide];rfl
theorem len2 (x y:Mb): [x,y].length=2000002%big:=by
  rw[show 2000002%big=2 by decide];rfl
def dL (st:Array Value):List Int:=st.toList.map fun v=>match v with| .int _ n=>n|_=>0
theorem readsB {P:Program} {f:FuncId} {x0 x1 cs st:Array Value} {g0 g1 t:Tq} {o l c:Nat} {v:Value} (h:Reads P f [(x0,g0),(x1,g1),(cs,t)] [.agg st,.slice (some ⟨2,o,none⟩) l c] v 2) {mem:List Mb} {i:Nat} (h0:mem[0]? =some (x0,g0)) (h1:mem[1]? =some (x1,g1)) (hm:mem[i]? =some (cs,t)) {w:World} {β:Nat→Nat} (hw:Has w β mem) (b0:β 0=0) (b1:β 1=1):Calls P f ([Value.agg st,.slice (some ⟨i,o,none⟩) l c].map (rn β)).toArray w (fun e w'=>e= .returned v∧Below w.heap.size w w'):=
  h w (fun j => if j = 2 then β i else β j) (fun j x hx => by
    match j,hx with
    | 0, hx =>
      simp only[List.getElem?_cons_zero,Option.some.injEq] at hx
      subst hx
      exact hw 0 _ h0
    | 1, hx =>
      simp only[List.getElem?_cons_succ,List.getElem?_cons_zero,Option.some.injEq] at hx
      subst hx
      exact hw 1 _ h1
    | 2, hx =>
      simp only[List.getElem?_cons_succ,List.getElem?_cons_zero,Option.some.injEq] at hx
      subst hx
      exact hw i _ hm
    |j+3,hx=>simp at hx) (fun j hj=>by
    match j,hj with
    |0,_=>exact b0
    |1,_=>exact b1
    |j+2,hj=>omega)
def rnd2 (k w:Int) (z:S8):S8:=⟨IntKind.u32.wrap (t12 k w z+t22 z),z.a,z.b,z.c,IntKind.u32.wrap (z.d+t12 k w z),z.e,z.f,z.g⟩
def itr2 (W:List Int) (z:S8):Nat→S8
  |0=>z
  |i+1=>rnd2 (kL2.getD i 0) (W.getD i 0) (itr2 W z i)
def toS (S:List Int):S8:=⟨S.getD 0 0,S.getD 1 0,S.getD 2 0,S.getD 3 0,S.getD 4 0,S.getD 5 0,S.getD 6 0,S.getD 7 0⟩
def add2 (S:List Int) (z:S8):List Int:= [IntKind.u32.wrap ((S.getD 0 0)+z.a),IntKind.u32.wrap ((S.getD 1 0)+z.b),IntKind.u32.wrap ((S.getD 2 0)+z.c),IntKind.u32.wrap ((S.getD 3 0)+z.d),IntKind.u32.wrap ((S.getD 4 0)+z.e),IntKind.u32.wrap ((S.getD 5 0)+z.f),IntKind.u32.wrap ((S.getD 6 0)+z.g),IntKind.u32.wrap ((S.getD 7 0)+z.h)]
def bhd2 (S:List Int) (b:Nat→Int):List Int:=add2 S (itr2 (spL2 b 64) (toS S) 64)
def bhM2 (a:Array Value) (g0 g1 t:Tq) (S W:List Int):List Mb:= [(wA .u32 64 kL2,g0),(wA .u64 80 kL5,g1),(a,t),(wA .u32 8 S,(40,(0,0))),(wA .u32 8 [],(40,(0,0))),(wA .u32 64 W,(58,(0,0)))]
theorem bh2_l (a:Array Value) (g0 g1 t:Tq) (o l cp:Nat) (S W:List Int) (z:S8) (j0:Nat→Value) {c0:Prop} {ch0:List (Option Value)}:Runs Tryd.prog (.loop (cAt [1,1,1,0,1,0,0] (bdy Tryd.f20))) ⟨bh2T_a a g0 g1 t o l cp S W z 0 j0,bhM2 a g0 g1 t S W,c0,ch0⟩ (fun e s=>e= .exit 0∧∃ j c ch,s=⟨bh2T_a a g0 g1 t o l cp S W (itr2 W z 64) 64 j,bhM2 a g0 g1 t S W,c,ch⟩) 2000003:=by
  refine runs_loop (fun M s=>∃ i j c ch,i≤64∧M=64 - i∧s=⟨bh2T_a a g0 g1 t o l cp S W (itr2 W z i) i j,bhM2 a g0 g1 t S W,c,ch⟩) 64 ⟨0,j0,c0,ch0,by omega,rfl,rfl⟩ ?_
  rintro M s ⟨i,j,c,ch,hi,rfl,rfl⟩
  by_cases h:i<64
  · refine (bh2T_r a g0 g1 t o l cp S W (itr2 W z i) i j ⟨by omega, by omega⟩ ⟨wA_get (by omega) (by omega), rfl⟩ ⟨by omega, by omega⟩ ⟨wA_get (by omega) (by omega), rfl⟩ ⟨trivial, rfl⟩ ⟨trivial, rfl⟩ ⟨trivial, by rw [wi (by omega) (by omega)]; omega⟩ (decide_eq_true (by omega))).mono ?_
    rintro e s ⟨rfl,c,ch,hs⟩
    refine .inl ⟨rfl,64 - (i+1),by omega,i+1,fun q=>s.tm.getD q undef,c,ch,by omega,rfl,?_⟩
    subst hs
    rfl
  · have : i = 64 := by omega
    subst this
    refine(bh2X_r a g0 g1 t o l cp S W (itr2 W z 64) 64 j (decide_eq_false (by omega))).mono ?_
    rintro e s ⟨rfl,c,ch,hs⟩
    refine .inr ⟨by simp,rfl,fun q=>s.tm.getD q undef,c,ch,?_⟩
    subst hs
    rfl
theorem bh2_shape:(bdy Tryd.f20)= .seq (cAt [0] (bdy Tryd.f20)) (.seq (cAt [1,0] (bdy Tryd.f20)) (.seq (cAt [1,1,0] (bdy Tryd.f20)) (.seq (.seq (cAt [1,1,1,0,0] (bdy Tryd.f20)) (.block 0 (.loop (cAt [1,1,1,0,1,0,0] (bdy Tryd.f20))))) (cAt [1,1,1,1] (bdy Tryd.f20))))):=by kernel_rfl
theorem one82 (x0 x1 x2 x3 x4 x5 x6 x7:Int):(#[Value.int .u32 x0,.int .u32 x1,.int .u32 x2,.int .u32 x3,.int .u32 x4,.int .u32 x5,.int .u32 x6,.int .u32 x7]:Array Value).all (fun v=>v.oneCell')=true:=by kernel_rfl
theorem bh2_end (a:Array Value) (g0 g1 t:Tq) (o l cp:Nat) (S W:List Int) (z:S8) (j:Nat→Value) {c0:Prop} {ch0:List (Option Value)}:Runs Tryd.prog (cAt [1,1,1,1] (bdy Tryd.f20)) ⟨bh2T_a a g0 g1 t o l cp S W z 64 j,bhM2 a g0 g1 t S W,c0,ch0⟩ (fun e s=>e= .ret∧resS (yty.enf tabS5 2000003) s Tryd.f20.results.toList=some [.agg (wA .u32 8 (add2 S z))]) 2000003:=by
  have hs0:bh2T_a a g0 g1 t o l cp S W z 64 j=bh2Z_a a g0 g1 t o l cp S W z (fun q=>(bh2T_a a g0 g1 t o l cp S W z 64 j).getD q undef):=rfl
  rw[hs0]
  refine(bh2Z_r a g0 g1 t o l cp S W z _ (one82 _ _ _ _ _ _ _ _)).mono ?_
  rintro e s ⟨rfl,c,ch,hs⟩
  subst hs
  exact⟨rfl,by kernel_rfl⟩
theorem Behind2_c (a:Array Value) (g0 g1 t:Tq) (o l cp:Nat) (S:List Int) (hb:bytesAt a o 64) (hl:64≤l) (hc:l≤cp):Reads Tryd.prog 20 [(wA .u32 64 kL2,g0),(wA .u64 80 kL5,g1),(a,t)] [.agg (wA .u32 8 S),.slice (some ⟨2,o,none⟩) l cp] (.agg (wA .u32 8 (bhd2 S (fun i=>wd2 a (o+4*i))))) 2:=by
  refine reads_runs (fk:=2000003) (yty.enf tabS5 2000003) Tryd.func20 (c:=(bdy Tryd.f20)) (by kernel_rfl) ⟨len3 _ _ _,by decide⟩ (by kernel_rfl) (K:=fun e s=>e= .ret∧resS (yty.enf tabS5 2000003) s Tryd.f20.results.toList=some [.agg (wA .u32 8 (bhd2 S (fun i=>wd2 a (o+4*i))))]) ?_ (fun e s h=>⟨h.1,_,h.2,rfl⟩)
  rw[bh2_shape]
  refine runs_seq (bh2A_r a g0 g1 t o l cp S) (fun s h=> ?_) (fun e s hne h=>absurd h.1 hne)
  obtain⟨_,c,ch,rfl⟩:=h
  refine runs_seq (bh2B_r a g0 g1 t o l cp S ⟨⟨hb,hl⟩,hc⟩ (wA_one _ _ _)) (fun s h=> ?_) (fun e s hne h=>absurd h.1 hne)
  obtain⟨_,c,ch,rfl⟩:=h
  refine runs_seq (bh2C_r a g0 g1 t o l cp S) (fun s h=> ?_) (fun e s hne h=>absurd h.1 hne)
  obtain⟨_,c,ch,rfl⟩:=h
  generalize hW:spL2 (fun i=>wd2 a (o+4*i)) 64=W
  refine runs_seq (K1:=fun e s=>e= .normal∧∃ j c ch,s=⟨bh2T_a a g0 g1 t o l cp S W (itr2 W (toS S) 64) 64 j,bhM2 a g0 g1 t S W,c,ch⟩) ?_ (fun s h=> ?_) (fun e s hne h=>absurd h.1 hne)
  · rw [← hW]
    refine runs_seq (bh2D_r a g0 g1 t o l cp S) (fun s h=> ?_) (fun e s hne h=>absurd h.1 hne)
    obtain⟨_,c,ch,hs⟩:=h
    have hs':s=⟨bh2T_a a g0 g1 t o l cp S (spL2 (fun i=>wd2 a (o+4*i)) 64) (toS S) 0 (fun q=>s.tm.getD q undef),bhM2 a g0 g1 t S (spL2 (fun i=>wd2 a (o+4*i)) 64),c,ch⟩:=by subst hs;rfl
    rw[hs']
    refine runs_block (bh2_l a g0 g1 t o l cp S _ (toS S) _) ?_
    rintro e s ⟨rfl,h⟩
    exact .inl ⟨rfl,rfl,h⟩
  obtain⟨_,j,c,ch,rfl⟩:=h
  unfold bhd2
  rw[hW]
  generalize itr2 W (toS S) 64=z
  exact bh2_end a g0 g1 t o l cp S W z j
def pBh2 : Entry Tryd.prog where
  f:=20
  ng:=2
  g := fun mem xs => match xs with
    | [.agg st, .slice (some ⟨i, o, none⟩) l c] => (match mem[0]?, mem[1]?, mem[i]? with
      |some (x0,_),some (x1,_),some (a,_)=>some (.agg (wA .u32 8 (bhd2 (dL st) (fun i=>wd2 a (o+4*i)))),(x0=wA .u32 64 kL2∧x1=wA .u64 80 kL5∧st=wA .u32 8 (dL st)∧bytesAt a o 64∧64≤l∧l≤c))
      |_,_,_=>none)
    |_=>none
  ok := fun mem xs v c e hc w β hw hg => by
    split at e
    · rename_i st i o l c0
      split at e
      · rename_i x0 g0 x1 g1 a t h0 h1 hm
        simp only[Option.some.injEq,Prod.mk.injEq] at e
        obtain⟨rfl,rfl⟩:=e
        obtain⟨rfl,rfl,hst,hb,hl,hcp⟩:=hc
        have:=Behind2_c a g0 g1 t o l c0 (dL st) hb hl hcp
        rw[← hst] at this
        exact readsB this h0 h1 hm hw (hg 0 (by decide)) (hg 1 (by decide))
      · cases e
    · cases e
  call:=call_of Tryd.func20 (by kernel_rfl) (by kernel_rfl)
def rnd5 (k w:Int) (z:S8):S8:=⟨IntKind.u64.wrap (t15 k w z+t25 z),z.a,z.b,z.c,IntKind.u64.wrap (z.d+t15 k w z),z.e,z.f,z.g⟩
def itr5 (W:List Int) (z:S8):Nat→S8
  |0=>z
  |i+1=>rnd5 (kL5.getD i 0) (W.getD i 0) (itr5 W z i)
def add5 (S:List Int) (z:S8):List Int:= [IntKind.u64.wrap ((S.getD 0 0)+z.a),IntKind.u64.wrap ((S.getD 1 0)+z.b),IntKind.u64.wrap ((S.getD 2 0)+z.c),IntKind.u64.wrap ((S.getD 3 0)+z.d),IntKind.u64.wrap ((S.getD 4 0)+z.e),IntKind.u64.wrap ((S.getD 5 0)+z.f),IntKind.u64.wrap ((S.getD 6 0)+z.g),IntKind.u64.wrap ((S.getD 7 0)+z.h)]
def bhd5 (S:List Int) (b:Nat→Int):List Int:=add5 S (itr5 (spL5 b 80) (toS S) 80)
def bhM5 (a:Array Value) (g0 g1 t:Tq) (S W:List Int):List Mb:= [(wA .u32 64 kL2,g0),(wA .u64 80 kL5,g1),(a,t),(wA .u64 8 S,(51,(0,0))),(wA .u64 8 [],(51,(0,0))),(wA .u64 80 W,(55,(0,0)))]
theorem bh5_l (a:Array Value) (g0 g1 t:Tq) (o l cp:Nat) (S W:List Int) (z:S8) (j0:Nat→Value) {c0:Prop} {ch0:List (Option Value)}:Runs Tryd.prog (.loop (cAt [1,1,1,0,1,0,0] (bdy Tryd.f26))) ⟨bh5T_a a g0 g1 t o l cp S W z 0 j0,bhM5 a g0 g1 t S W,c0,ch0⟩ (fun e s=>e= .exit 0∧∃ j c ch,s=⟨bh5T_a a g0 g1 t o l cp S W (itr5 W z 80) 80 j,bhM5 a g0 g1 t S W,c,ch⟩) 2000003:=by
  refine runs_loop (fun M s=>∃ i j c ch,i≤80∧M=80 - i∧s=⟨bh5T_a a g0 g1 t o l cp S W (itr5 W z i) i j,bhM5 a g0 g1 t S W,c,ch⟩) 80 ⟨0,j0,c0,ch0,by omega,rfl,rfl⟩ ?_
  rintro M s ⟨i,j,c,ch,hi,rfl,rfl⟩
  by_cases h:i<80
  · refine (bh5T_r a g0 g1 t o l cp S W (itr5 W z i) i j ⟨by omega, by omega⟩ ⟨wA_get (by omega) (by omega), rfl⟩ ⟨by omega, by omega⟩ ⟨wA_get (by omega) (by omega), rfl⟩ ⟨trivial, rfl⟩ ⟨trivial, rfl⟩ ⟨trivial, by rw [wi (by omega) (by omega)]; omega⟩ (decide_eq_true (by omega))).mono ?_
    rintro e s ⟨rfl,c,ch,hs⟩
    refine .inl ⟨rfl,80 - (i+1),by omega,i+1,fun q=>s.tm.getD q undef,c,ch,by omega,rfl,?_⟩
    subst hs
    rfl
  · have : i = 80 := by omega
    subst this
    refine(bh5X_r a g0 g1 t o l cp S W (itr5 W z 80) 80 j (decide_eq_false (by omega))).mono ?_
    rintro e s ⟨rfl,c,ch,hs⟩
    refine .inr ⟨by simp,rfl,fun q=>s.tm.getD q undef,c,ch,?_⟩
    subst hs
    rfl
theorem bh5_shape:(bdy Tryd.f26)= .seq (cAt [0] (bdy Tryd.f26)) (.seq (cAt [1,0] (bdy Tryd.f26)) (.seq (cAt [1,1,0] (bdy Tryd.f26)) (.seq (.seq (cAt [1,1,1,0,0] (bdy Tryd.f26)) (.block 0 (.loop (cAt [1,1,1,0,1,0,0] (bdy Tryd.f26))))) (cAt [1,1,1,1] (bdy Tryd.f26))))):=by kernel_rfl
theorem one85 (x0 x1 x2 x3 x4 x5 x6 x7:Int):(#[Value.int .u64 x0,.int .u64 x1,.int .u64 x2,.int .u64 x3,.int .u64 x4,.int .u64 x5,.int .u64 x6,.int .u64 x7]:Array Value).all (fun v=>v.oneCell')=true:=by kernel_rfl
theorem bh5_end (a:Array Value) (g0 g1 t:Tq) (o l cp:Nat) (S W:List Int) (z:S8) (j:Nat→Value) {c0:Prop} {ch0:List (Option Value)}:Runs Tryd.prog (cAt [1,1,1,1] (bdy Tryd.f26)) ⟨bh5T_a a g0 g1 t o l cp S W z 80 j,bhM5 a g0 g1 t S W,c0,ch0⟩ (fun e s=>e= .ret∧resS (yty.enf tabS5 2000003) s Tryd.f26.results.toList=some [.agg (wA .u64 8 (add5 S z))]) 2000003:=by
  have hs0:bh5T_a a g0 g1 t o l cp S W z 80 j=bh5Z_a a g0 g1 t o l cp S W z (fun q=>(bh5T_a a g0 g1 t o l cp S W z 80 j).getD q undef):=rfl
  rw[hs0]
  refine(bh5Z_r a g0 g1 t o l cp S W z _ (one85 _ _ _ _ _ _ _ _)).mono ?_
  rintro e s ⟨rfl,c,ch,hs⟩
  subst hs
  exact⟨rfl,by kernel_rfl⟩
theorem Behind5_c (a:Array Value) (g0 g1 t:Tq) (o l cp:Nat) (S:List Int) (hb:bytesAt a o 128) (hl:128≤l) (hc:l≤cp):Reads Tryd.prog 26 [(wA .u32 64 kL2,g0),(wA .u64 80 kL5,g1),(a,t)] [.agg (wA .u64 8 S),.slice (some ⟨2,o,none⟩) l cp] (.agg (wA .u64 8 (bhd5 S (fun i=>wd5 a (o+8*i))))) 2:=by
  refine reads_runs (fk:=2000003) (yty.enf tabS5 2000003) Tryd.func26 (c:=(bdy Tryd.f26)) (by kernel_rfl) ⟨len3 _ _ _,by decide⟩ (by kernel_rfl) (K:=fun e s=>e= .ret∧resS (yty.enf tabS5 2000003) s Tryd.f26.results.toList=some [.agg (wA .u64 8 (bhd5 S (fun i=>wd5 a (o+8*i))))]) ?_ (fun e s h=>⟨h.1,_,h.2,rfl⟩)
  rw[bh5_shape]
  refine runs_seq (bh5A_r a g0 g1 t o l cp S) (fun s h=> ?_) (fun e s hne h=>absurd h.1 hne)
  obtain⟨_,c,ch,rfl⟩:=h
  refine runs_seq (bh5B_r a g0 g1 t o l cp S ⟨⟨hb,hl⟩,hc⟩ (wA_one _ _ _)) (fun s h=> ?_) (fun e s hne h=>absurd h.1 hne)
  obtain⟨_,c,ch,rfl⟩:=h
  refine runs_seq (bh5C_r a g0 g1 t o l cp S) (fun s h=> ?_) (fun e s hne h=>absurd h.1 hne)
  obtain⟨_,c,ch,rfl⟩:=h
  generalize hW:spL5 (fun i=>wd5 a (o+8*i)) 80=W
  refine runs_seq (K1:=fun e s=>e= .normal∧∃ j c ch,s=⟨bh5T_a a g0 g1 t o l cp S W (itr5 W (toS S) 80) 80 j,bhM5 a g0 g1 t S W,c,ch⟩) ?_ (fun s h=> ?_) (fun e s hne h=>absurd h.1 hne)
  · rw [← hW]
    refine runs_seq (bh5D_r a g0 g1 t o l cp S) (fun s h=> ?_) (fun e s hne h=>absurd h.1 hne)
    obtain⟨_,c,ch,hs⟩:=h
    have hs':s=⟨bh5T_a a g0 g1 t o l cp S (spL5 (fun i=>wd5 a (o+8*i)) 80) (toS S) 0 (fun q=>s.tm.getD q undef),bhM5 a g0 g1 t S (spL5 (fun i=>wd5 a (o+8*i)) 80),c,ch⟩:=by subst hs;rfl
    rw[hs']
    refine runs_block (bh5_l a g0 g1 t o l cp S _ (toS S) _) ?_
    rintro e s ⟨rfl,h⟩
    exact .inl ⟨rfl,rfl,h⟩
  obtain⟨_,j,c,ch,rfl⟩:=h
  unfold bhd5
  rw[hW]
  generalize itr5 W (toS S) 80=z
  exact bh5_end a g0 g1 t o l cp S W z j
def pBh5 : Entry Tryd.prog where
  f:=26
  ng:=2
  g := fun mem xs => match xs with
    | [.agg st, .slice (some ⟨i, o, none⟩) l c] => (match mem[0]?, mem[1]?, mem[i]? with
      |some (x0,_),some (x1,_),some (a,_)=>some (.agg (wA .u64 8 (bhd5 (dL st) (fun i=>wd5 a (o+8*i)))),(x0=wA .u32 64 kL2∧x1=wA .u64 80 kL5∧st=wA .u64 8 (dL st)∧bytesAt a o 128∧128≤l∧l≤c))
      |_,_,_=>none)
    |_=>none
  ok := fun mem xs v c e hc w β hw hg => by
    split at e
    · rename_i st i o l c0
      split at e
      · rename_i x0 g0 x1 g1 a t h0 h1 hm
        simp only[Option.some.injEq,Prod.mk.injEq] at e
        obtain⟨rfl,rfl⟩:=e
        obtain⟨rfl,rfl,hst,hb,hl,hcp⟩:=hc
        have:=Behind5_c a g0 g1 t o l c0 (dL st) hb hl hcp
        rw[← hst] at this
        exact readsB this h0 h1 hm hw (hg 0 (by decide)) (hg 1 (by decide))
      · cases e
    · cases e
  call:=call_of Tryd.func26 (by kernel_rfl) (by kernel_rfl)
def tabS6:List (Entry Tryd.prog):=pBh2 :: pBh5 :: tabS5
end Go.Proofs.YtpmkojinhebihaaDoor
