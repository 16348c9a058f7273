import Derived.Test.YtpmkojinhebihaaDoorZSSardShB
set_option linter.unusedSimpArgs false
set_option linter.unusedVariables false
/-! The words of a block: loops. -/
namespace Go.Proofs.YtpmkojinhebihaaDoor
open Go.RowKit Go.Ev
theorem wi {n:Int} (h0: -9223372036854775808≤n) (h1:n<9223372036854775808):IntKind.i64.wrap n=n:=by rw[IntKind.wrap_i64];omega
theorem wA_size (k:IntKind) (n:Nat) (L:List Int):(wA k n L).size=n:=by simp[wA]
theorem wA_at {k:IntKind} {n:Nat} {L:List Int} {p:Nat} (h:p<n):(wA k n L)[p]? =some (.int k (L.getD p 0)):=by
  simp[wA,h]
theorem wA_get {k:IntKind} {n:Nat} {L:List Int} {p q:Nat} (h:p<n) (e:q=p):(wA k n L)[q]? =some (.int k (L.getD p 0)):=by
  subst e;exact wA_at h
theorem wA_set {k : IntKind} {n : Nat} {L : List Int} {x : Int} {p : Nat} (h : L.length < n) (e : p = L.length) : p < (wA k n L).size ∧ (wA k n L).setIfInBounds p (.int k x) = wA k n (L ++ [x]) := by
  subst e
  refine⟨by rw[wA_size];exact h,?_⟩
  apply Array.ext
  · rw[Array.size_setIfInBounds,wA_size,wA_size]
  · intro i h1 h2
    rw[Array.size_setIfInBounds,wA_size] at h1
    have e1 : ((wA k n L).setIfInBounds L.length (.int k x))[i]? = (wA k n (L ++ [x]))[i]? := by
      rw[wA_at h1,Array.getElem?_setIfInBounds,wA_size]
      by_cases hi:L.length=i
      · subst hi
        rw[if_pos rfl,if_pos h]
        simp
      · rw [if_neg hi, wA_at h1]
        congr 2
        rw[List.getD_eq_getElem?_getD,List.getD_eq_getElem?_getD,List.getElem?_append]
        split
        · rfl
        · rw[List.getElem?_eq_none (by omega),List.getElem?_eq_none (by simp;omega)]
    rw[Array.getElem?_eq_getElem (by rw[Array.size_setIfInBounds,wA_size];exact h1),Array.getElem?_eq_getElem h2] at e1
    exact Option.some.inj e1
theorem wA_one (k:IntKind) (n:Nat) (L:List Int):(wA k n L).all (fun v=>v.oneCell')=true:=by
  simp[wA,Value.oneCell']
def spL2 (b:Nat→Int):Nat→List Int
  |0=> []
  |i+1=>spL2 b i ++ [if i<16 then b i else mx2 (spL2 b i) i]
theorem spL2_len (b:Nat→Int):∀ i,(spL2 b i).length=i
  |0=>rfl
  |i+1=>by rw[spL2,List.length_append,spL2_len b i];rfl
theorem spL2_lt {b:Nat→Int} {i:Nat} (h:i<16):spL2 b (i+1)=spL2 b i ++ [b i]:=by rw[spL2,if_pos h]
theorem spL2_ge {b:Nat→Int} {i:Nat} (h:¬ i<16):spL2 b (i+1)=spL2 b i ++ [mx2 (spL2 b i) i]:=by rw[spL2,if_neg h]
def spM2 (a:Array Value) (t:Tq) (L:List Int):List Mb:= [(a,t),(wA .u32 64 [],(58,(0,0))),(wA .u32 64 L,(58,(0,0)))]
theorem sp2_l1 (a:Array Value) (t:Tq) (o l cp:Nat) (hb:bytesAt a o 64) (hl:64≤l) (hc:l≤cp) (j0:Nat→Value) {c0:Prop} {ch0:List (Option Value)}:Runs Tryd.prog (.loop (cAt [1,1,0,1,0,0] (bdy Tryd.f31))) ⟨sp2T_a a t o l cp [] 0 j0,spM2 a t [],c0,ch0⟩ (fun e s=>e= .exit 0∧∃ j c ch,s=⟨sp2T_a a t o l cp [] 16 j,spM2 a t (spL2 (fun i=>wd2 a (o+4*i)) 16),c,ch⟩) 1:=by
  generalize hB:(fun i=>wd2 a (o+4*i))=b
  refine runs_loop (fun M s=>∃ i j c ch,i≤16∧M=16 - i∧s=⟨sp2T_a a t o l cp [] i j,spM2 a t (spL2 b i),c,ch⟩) 16 ⟨0,j0,c0,ch0,by omega,rfl,rfl⟩ ?_
  rintro M s ⟨i,j,c,ch,hi,rfl,rfl⟩
  have hlen:=spL2_len b i
  by_cases h:i<16
  · have hoff : (if cp = Int.toNat ((4 * i : Nat) : Int) then o else o + (Int.toNat ((4 * i : Nat) : Int)) * 1) = o + 4 * i := by rw [Int.toNat_natCast, if_neg (by omega), Nat.mul_one]
    refine(sp2T_r a t o l cp (spL2 b i) i j ⟨trivial,by rw[wi (by omega) (by omega)];omega⟩ ⟨⟨by omega,trivial⟩,by omega,hc⟩ ⟨⟨by rw[hoff];exact hb.sub (by omega),by omega⟩,by omega⟩ ⟨by omega,by omega⟩ (wA_set (by omega) (by omega)) ⟨trivial,by rw[wi (by omega) (by omega)];omega⟩ (decide_eq_true (by omega))).mono ?_
    rintro e s ⟨rfl,c,ch,hs⟩
    refine .inl ⟨rfl,16 - (i+1),by omega,i+1,fun q=>s.tm.getD q undef,c,ch,by omega,rfl,?_⟩
    rw[hoff] at hs
    have e1:spL2 b (i+1)=spL2 b i ++ [wd2 a (o+4*i)]:=by rw[spL2_lt h,← hB]
    rw[e1]
    subst hs
    rfl
  · have : i = 16 := by omega
    subst this
    refine(sp2X_r a t o l cp (spL2 b 16) 16 j (decide_eq_false (by omega))).mono ?_
    rintro e s ⟨rfl,c,ch,hs⟩
    refine .inr ⟨by simp,rfl,fun q=>s.tm.getD q undef,c,ch,?_⟩
    subst hs
    rfl
theorem sp2_l2 (a:Array Value) (t:Tq) (o l cp:Nat) (b:Nat→Int) (j0:Nat→Value) {c0:Prop} {ch0:List (Option Value)}:Runs Tryd.prog (.loop (cAt [1,1,1,0,1,0,0] (bdy Tryd.f31))) ⟨sp2U_a a t o l cp [] 16 j0,spM2 a t (spL2 b 16),c0,ch0⟩ (fun e s=>e= .exit 2∧∃ j c ch,s=⟨sp2U_a a t o l cp [] 64 j,spM2 a t (spL2 b 64),c,ch⟩) 1:=by
  refine runs_loop (fun M s=>∃ i j c ch,16≤i∧i≤64∧M=64 - i∧s=⟨sp2U_a a t o l cp [] i j,spM2 a t (spL2 b i),c,ch⟩) (64 - 16) ⟨16,j0,c0,ch0,by omega,by omega,rfl,rfl⟩ ?_
  rintro M s ⟨i,j,c,ch,h16,hi,rfl,rfl⟩
  have hlen:=spL2_len b i
  by_cases h:i<64
  · refine (sp2U_r a t o l cp (spL2 b i) i j ⟨trivial, by rw [wi (by omega) (by omega)]; omega⟩ ⟨by omega, by omega⟩ ⟨wA_get (by omega) (by omega), rfl⟩ ⟨trivial, by rw [wi (by omega) (by omega)]; omega⟩ ⟨by omega, by omega⟩ ⟨wA_get (by omega) (by omega), rfl⟩ ⟨trivial, by rw [wi (by omega) (by omega)]; omega⟩ ⟨by omega, by omega⟩ ⟨wA_get (by omega) (by omega), rfl⟩ ⟨trivial, by rw [wi (by omega) (by omega)]; omega⟩ ⟨by omega, by omega⟩ ⟨wA_get (by omega) (by omega), rfl⟩ ⟨by omega, by omega⟩ (wA_set (by omega) (by omega)) ⟨trivial, by rw [wi (by omega) (by omega)]; omega⟩ (decide_eq_true (by omega))).mono ?_
    rintro e s ⟨rfl,c,ch,hs⟩
    refine .inl ⟨rfl,64 - (i+1),by omega,i+1,fun q=>s.tm.getD q undef,c,ch,by omega,by omega,rfl,?_⟩
    rw[spL2_ge (by omega)]
    subst hs
    rfl
  · have : i = 64 := by omega
    subst this
    refine(sp2Y_r a t o l cp (spL2 b 64) 64 j (decide_eq_false (by omega))).mono ?_
    rintro e s ⟨rfl,c,ch,hs⟩
    refine .inr ⟨by simp,rfl,fun q=>s.tm.getD q undef,c,ch,?_⟩
    subst hs
    rfl
theorem sp2_shape:(bdy Tryd.f31)= .seq (cAt [0] (bdy Tryd.f31)) (.seq (cAt [1,0] (bdy Tryd.f31)) (.seq (.seq (cAt [1,1,0,0] (bdy Tryd.f31)) (.block 0 (.loop (cAt [1,1,0,1,0,0] (bdy Tryd.f31))))) (.seq (.seq (cAt [1,1,1,0,0] (bdy Tryd.f31)) (.block 2 (.loop (cAt [1,1,1,0,1,0,0] (bdy Tryd.f31))))) (cAt [1,1,1,1] (bdy Tryd.f31))))):=by kernel_rfl
theorem Spread2_c (a:Array Value) (t:Tq) (o l cp:Nat) (hb:bytesAt a o 64) (hl:64≤l) (hc:l≤cp):Reads Tryd.prog 31 [(a,t)] [.slice (some ⟨0,o,none⟩) l cp] (.agg (wA .u32 64 (spL2 (fun i=>wd2 a (o+4*i)) 64))):=by
  refine reads_runs (fk:=1) (yty.enf tabS4 1) Tryd.func31 (c:=(bdy Tryd.f31)) (by kernel_rfl) ⟨rfl,by decide⟩ rfl (K:=fun e s=>e= .ret∧resS (yty.enf tabS4 1) s Tryd.f31.results.toList=some [.agg (wA .u32 64 (spL2 (fun i=>wd2 a (o+4*i)) 64))]) ?_ (fun e s h=>⟨h.1,_,h.2,rfl⟩)
  rw[sp2_shape]
  refine runs_seq (sp2A_r a t o l cp) (fun s h=> ?_) (fun e s hne h=>absurd h.1 hne)
  obtain⟨_,c,ch,rfl⟩:=h
  refine runs_seq (sp2B_r a t o l cp) (fun s h=> ?_) (fun e s hne h=>absurd h.1 hne)
  obtain⟨_,c,ch,rfl⟩:=h
  refine runs_seq (K1:=fun e s=>e= .normal∧∃ j c ch,s=⟨sp2T_a a t o l cp [] 16 j,spM2 a t (spL2 (fun i=>wd2 a (o+4*i)) 16),c,ch⟩) ?_ (fun s h=> ?_) (fun e s hne h=>absurd h.1 hne)
  · refine runs_seq (sp2C_r a t o l cp) (fun s h => ?_) (fun e s hne h => absurd h.1 hne)
    obtain⟨_,c,ch,hs⟩:=h
    have hs':s=⟨sp2T_a a t o l cp [] 0 (fun q=>s.tm.getD q undef),spM2 a t [],c,ch⟩:=by subst hs;rfl
    rw[hs']
    refine runs_block (sp2_l1 a t o l cp hb hl hc _) ?_
    rintro e s ⟨rfl,h⟩
    exact .inl ⟨rfl,rfl,h⟩
  obtain⟨_,j,c,ch,rfl⟩:=h
  refine runs_seq (K1:=fun e s=>e= .normal∧∃ j c ch,s=⟨sp2U_a a t o l cp [] 64 j,spM2 a t (spL2 (fun i=>wd2 a (o+4*i)) 64),c,ch⟩) ?_ (fun s h=> ?_) (fun e s hne h=>absurd h.1 hne)
  · have hs0 : sp2T_a a t o l cp [] 16 j = sp2D_a a t o l cp (spL2 (fun i => wd2 a (o + 4 * i)) 16) 16 (fun q => (sp2T_a a t o l cp [] 16 j).getD q undef) := rfl
    rw[hs0]
    refine runs_seq (sp2D_r a t o l cp _ 16 _) (fun s h=> ?_) (fun e s hne h=>absurd h.1 hne)
    obtain⟨_,c,ch,hs⟩:=h
    have hs':s=⟨sp2U_a a t o l cp [] 16 (fun q=>s.tm.getD q undef),spM2 a t (spL2 (fun i=>wd2 a (o+4*i)) 16),c,ch⟩:=by subst hs;rfl
    rw[hs']
    refine runs_block (sp2_l2 a t o l cp _ _) ?_
    rintro e s ⟨rfl,h⟩
    exact .inl ⟨rfl,rfl,h⟩
  obtain⟨_,j,c,ch,rfl⟩:=h
  have hs0:sp2U_a a t o l cp [] 64 j=sp2Z_a a t o l cp (spL2 (fun i=>wd2 a (o+4*i)) 64) (fun q=>(sp2U_a a t o l cp [] 64 j).getD q undef):=rfl
  rw[hs0]
  refine(sp2Z_r a t o l cp _ _ (wA_one _ _ _)).mono ?_
  rintro e s ⟨rfl,c,ch,hs⟩
  subst hs
  exact⟨rfl,by kernel_rfl⟩
def pSp2:Entry Tryd.prog:=entSl Tryd.func31 (by kernel_rfl) (by kernel_rfl) (fun a o _=> .agg (wA .u32 64 (spL2 (fun i=>wd2 a (o+4*i)) 64))) (fun a o l=>bytesAt a o 64∧64≤l) (fun a t o l c h hc=>Spread2_c a t o l c h.1 h.2 hc)
def spL5 (b:Nat→Int):Nat→List Int
  |0=> []
  |i+1=>spL5 b i ++ [if i<16 then b i else mx5 (spL5 b i) i]
theorem spL5_len (b:Nat→Int):∀ i,(spL5 b i).length=i
  |0=>rfl
  |i+1=>by rw[spL5,List.length_append,spL5_len b i];rfl
theorem spL5_lt {b:Nat→Int} {i:Nat} (h:i<16):spL5 b (i+1)=spL5 b i ++ [b i]:=by rw[spL5,if_pos h]
theorem spL5_ge {b:Nat→Int} {i:Nat} (h:¬ i<16):spL5 b (i+1)=spL5 b i ++ [mx5 (spL5 b i) i]:=by rw[spL5,if_neg h]
def spM5 (a:Array Value) (t:Tq) (L:List Int):List Mb:= [(a,t),(wA .u64 80 [],(55,(0,0))),(wA .u64 80 L,(55,(0,0)))]
theorem sp5_l1 (a:Array Value) (t:Tq) (o l cp:Nat) (hb:bytesAt a o 128) (hl:128≤l) (hc:l≤cp) (j0:Nat→Value) {c0:Prop} {ch0:List (Option Value)}:Runs Tryd.prog (.loop (cAt [1,1,0,1,0,0] (bdy Tryd.f37))) ⟨sp5T_a a t o l cp [] 0 j0,spM5 a t [],c0,ch0⟩ (fun e s=>e= .exit 0∧∃ j c ch,s=⟨sp5T_a a t o l cp [] 16 j,spM5 a t (spL5 (fun i=>wd5 a (o+8*i)) 16),c,ch⟩) 1:=by
  generalize hB:(fun i=>wd5 a (o+8*i))=b
  refine runs_loop (fun M s=>∃ i j c ch,i≤16∧M=16 - i∧s=⟨sp5T_a a t o l cp [] i j,spM5 a t (spL5 b i),c,ch⟩) 16 ⟨0,j0,c0,ch0,by omega,rfl,rfl⟩ ?_
  rintro M s ⟨i,j,c,ch,hi,rfl,rfl⟩
  have hlen:=spL5_len b i
  by_cases h:i<16
  · have hoff : (if cp = Int.toNat ((8 * i : Nat) : Int) then o else o + (Int.toNat ((8 * i : Nat) : Int)) * 1) = o + 8 * i := by rw [Int.toNat_natCast, if_neg (by omega), Nat.mul_one]
    refine(sp5T_r a t o l cp (spL5 b i) i j ⟨trivial,by rw[wi (by omega) (by omega)];omega⟩ ⟨⟨by omega,trivial⟩,by omega,hc⟩ ⟨⟨by rw[hoff];exact hb.sub (by omega),by omega⟩,by omega⟩ ⟨by omega,by omega⟩ (wA_set (by omega) (by omega)) ⟨trivial,by rw[wi (by omega) (by omega)];omega⟩ (decide_eq_true (by omega))).mono ?_
    rintro e s ⟨rfl,c,ch,hs⟩
    refine .inl ⟨rfl,16 - (i+1),by omega,i+1,fun q=>s.tm.getD q undef,c,ch,by omega,rfl,?_⟩
    rw[hoff] at hs
    have e1:spL5 b (i+1)=spL5 b i ++ [wd5 a (o+8*i)]:=by rw[spL5_lt h,← hB]
    rw[e1]
    subst hs
    rfl
  · have : i = 16 := by omega
    subst this
    refine(sp5X_r a t o l cp (spL5 b 16) 16 j (decide_eq_false (by omega))).mono ?_
    rintro e s ⟨rfl,c,ch,hs⟩
    refine .inr ⟨by simp,rfl,fun q=>s.tm.getD q undef,c,ch,?_⟩
    subst hs
    rfl
theorem sp5_l2 (a:Array Value) (t:Tq) (o l cp:Nat) (b:Nat→Int) (j0:Nat→Value) {c0:Prop} {ch0:List (Option Value)}:Runs Tryd.prog (.loop (cAt [1,1,1,0,1,0,0] (bdy Tryd.f37))) ⟨sp5U_a a t o l cp [] 16 j0,spM5 a t (spL5 b 16),c0,ch0⟩ (fun e s=>e= .exit 2∧∃ j c ch,s=⟨sp5U_a a t o l cp [] 80 j,spM5 a t (spL5 b 80),c,ch⟩) 1:=by
  refine runs_loop (fun M s=>∃ i j c ch,16≤i∧i≤80∧M=80 - i∧s=⟨sp5U_a a t o l cp [] i j,spM5 a t (spL5 b i),c,ch⟩) (80 - 16) ⟨16,j0,c0,ch0,by omega,by omega,rfl,rfl⟩ ?_
  rintro M s ⟨i,j,c,ch,h16,hi,rfl,rfl⟩
  have hlen:=spL5_len b i
  by_cases h:i<80
  · refine (sp5U_r a t o l cp (spL5 b i) i j ⟨trivial, by rw [wi (by omega) (by omega)]; omega⟩ ⟨by omega, by omega⟩ ⟨wA_get (by omega) (by omega), rfl⟩ ⟨trivial, by rw [wi (by omega) (by omega)]; omega⟩ ⟨by omega, by omega⟩ ⟨wA_get (by omega) (by omega), rfl⟩ ⟨trivial, by rw [wi (by omega) (by omega)]; omega⟩ ⟨by omega, by omega⟩ ⟨wA_get (by omega) (by omega), rfl⟩ ⟨trivial, by rw [wi (by omega) (by omega)]; omega⟩ ⟨by omega, by omega⟩ ⟨wA_get (by omega) (by omega), rfl⟩ ⟨by omega, by omega⟩ (wA_set (by omega) (by omega)) ⟨trivial, by rw [wi (by omega) (by omega)]; omega⟩ (decide_eq_true (by omega))).mono ?_
    rintro e s ⟨rfl,c,ch,hs⟩
    refine .inl ⟨rfl,80 - (i+1),by omega,i+1,fun q=>s.tm.getD q undef,c,ch,by omega,by omega,rfl,?_⟩
    rw[spL5_ge (by omega)]
    subst hs
    rfl
  · have : i = 80 := by omega
    subst this
    refine(sp5Y_r a t o l cp (spL5 b 80) 80 j (decide_eq_false (by omega))).mono ?_
    rintro e s ⟨rfl,c,ch,hs⟩
    refine .inr ⟨by simp,rfl,fun q=>s.tm.getD q undef,c,ch,?_⟩
    subst hs
    rfl
theorem sp5_shape:(bdy Tryd.f37)= .seq (cAt [0] (bdy Tryd.f37)) (.seq (cAt [1,0] (bdy Tryd.f37)) (.seq (.seq (cAt [1,1,0,0] (bdy Tryd.f37)) (.block 0 (.loop (cAt [1,1,0,1,0,0] (bdy Tryd.f37))))) (.seq (.seq (cAt [1,1,1,0,0] (bdy Tryd.f37)) (.block 2 (.loop (cAt [1,1,1,0,1,0,0] (bdy Tryd.f37))))) (cAt [1,1,1,1] (bdy Tryd.f37))))):=by kernel_rfl
theorem Spread5_c (a:Array Value) (t:Tq) (o l cp:Nat) (hb:bytesAt a o 128) (hl:128≤l) (hc:l≤cp):Reads Tryd.prog 37 [(a,t)] [.slice (some ⟨0,o,none⟩) l cp] (.agg (wA .u64 80 (spL5 (fun i=>wd5 a (o+8*i)) 80))):=by
  refine reads_runs (fk:=1) (yty.enf tabS4 1) Tryd.func37 (c:=(bdy Tryd.f37)) (by kernel_rfl) ⟨rfl,by decide⟩ rfl (K:=fun e s=>e= .ret∧resS (yty.enf tabS4 1) s Tryd.f37.results.toList=some [.agg (wA .u64 80 (spL5 (fun i=>wd5 a (o+8*i)) 80))]) ?_ (fun e s h=>⟨h.1,_,h.2,rfl⟩)
  rw[sp5_shape]
  refine runs_seq (sp5A_r a t o l cp) (fun s h=> ?_) (fun e s hne h=>absurd h.1 hne)
  obtain⟨_,c,ch,rfl⟩:=h
  refine runs_seq (sp5B_r a t o l cp) (fun s h=> ?_) (fun e s hne h=>absurd h.1 hne)
  obtain⟨_,c,ch,rfl⟩:=h
  refine runs_seq (K1:=fun e s=>e= .normal∧∃ j c ch,s=⟨sp5T_a a t o l cp [] 16 j,spM5 a t (spL5 (fun i=>wd5 a (o+8*i)) 16),c,ch⟩) ?_ (fun s h=> ?_) (fun e s hne h=>absurd h.1 hne)
  · refine runs_seq (sp5C_r a t o l cp) (fun s h => ?_) (fun e s hne h => absurd h.1 hne)
    obtain⟨_,c,ch,hs⟩:=h
    have hs':s=⟨sp5T_a a t o l cp [] 0 (fun q=>s.tm.getD q undef),spM5 a t [],c,ch⟩:=by subst hs;rfl
    rw[hs']
    refine runs_block (sp5_l1 a t o l cp hb hl hc _) ?_
    rintro e s ⟨rfl,h⟩
    exact .inl ⟨rfl,rfl,h⟩
  obtain⟨_,j,c,ch,rfl⟩:=h
  refine runs_seq (K1:=fun e s=>e= .normal∧∃ j c ch,s=⟨sp5U_a a t o l cp [] 80 j,spM5 a t (spL5 (fun i=>wd5 a (o+8*i)) 80),c,ch⟩) ?_ (fun s h=> ?_) (fun e s hne h=>absurd h.1 hne)
  · have hs0 : sp5T_a a t o l cp [] 16 j = sp5D_a a t o l cp (spL5 (fun i => wd5 a (o + 8 * i)) 16) 16 (fun q => (sp5T_a a t o l cp [] 16 j).getD q undef) := rfl
    rw[hs0]
    refine runs_seq (sp5D_r a t o l cp _ 16 _) (fun s h=> ?_) (fun e s hne h=>absurd h.1 hne)
    obtain⟨_,c,ch,hs⟩:=h
    have hs':s=⟨sp5U_a a t o l cp [] 16 (fun q=>s.tm.getD q undef),spM5 a t (spL5 (fun i=>wd5 a (o+8*i)) 16),c,ch⟩:=by subst hs;rfl
    rw[hs']
    refine runs_block (sp5_l2 a t o l cp _ _) ?_
    rintro e s ⟨rfl,h⟩
    exact .inl ⟨rfl,rfl,h⟩
  obtain⟨_,j,c,ch,rfl⟩:=h
  have hs0:sp5U_a a t o l cp [] 80 j=sp5Z_a a t o l cp (spL5 (fun i=>wd5 a (o+8*i)) 80) (fun q=>(sp5U_a a t o l cp [] 80 j).getD q undef):=rfl
  rw[hs0]
  refine(sp5Z_r a t o l cp _ _ (wA_one _ _ _)).mono ?_
  rintro e s ⟨rfl,c,ch,hs⟩
  subst hs
  exact⟨rfl,by kernel_rfl⟩
def pSp5:Entry Tryd.prog:=entSl Tryd.func37 (by kernel_rfl) (by kernel_rfl) (fun a o _=> .agg (wA .u64 80 (spL5 (fun i=>wd5 a (o+8*i)) 80))) (fun a o l=>bytesAt a o 128∧128≤l) (fun a t o l c h hc=>Spread5_c a t o l c h.1 h.2 hc)
def tabS5:List (Entry Tryd.prog):=pSp2 :: pSp5 :: tabS4
end Go.Proofs.YtpmkojinhebihaaDoor
