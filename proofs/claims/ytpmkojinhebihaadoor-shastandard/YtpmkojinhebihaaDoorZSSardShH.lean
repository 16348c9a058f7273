import Derived.Test.YtpmkojinhebihaaDoorZSSardShG
set_option linter.unusedSimpArgs false
set_option linter.unusedVariables false
/-! What comes behind the last whole block: contracts. -/
namespace Go.Proofs.YtpmkojinhebihaaDoor
open Go.RowKit Go.Ev
def lset (N:Nat) (L:List Int) (p:Nat) (x:Int):List Int:=(List.range N).map fun i=>if i=p then x else L.getD i 0
theorem lset_at {N p i:Nat} {L:List Int} {x:Int} (h:i<N):(lset N L p x).getD i 0=if i=p then x else L.getD i 0:=by
  simp[lset,List.getD_eq_getElem?_getD,h]
theorem wA_ext {k:IntKind} {N:Nat} {A:Array Value} {L:List Int} (hs:A.size=N) (h:∀ i,i<N→A[i]? =some (.int k (L.getD i 0))):A=wA k N L:=by
  apply Array.ext
  · rw[hs,wA_size]
  · intro i h1 h2
    have hi:i<N:=by rw[← hs];exact h1
    have e1:=h i hi
    have e2:=wA_at (k:=k) (L:=L) hi
    rw[Array.getElem?_eq_getElem h1] at e1
    rw[Array.getElem?_eq_getElem h2] at e2
    exact(Option.some.inj e1).trans (Option.some.inj e2).symm
theorem wA_put {k:IntKind} {N p:Nat} {L:List Int} {x:Int} (h:p<N):(wA k N L).setIfInBounds p (.int k x)=wA k N (lset N L p x):=by
  refine wA_ext (by rw[Array.size_setIfInBounds,wA_size]) (fun i hi=> ?_)
  rw[Array.getElem?_setIfInBounds,wA_size,lset_at hi]
  by_cases e:p=i
  · subst e;rw[if_pos rfl,if_pos h,if_pos rfl]
  · rw[if_neg e,wA_at hi,if_neg (fun h=>e h.symm)]
def pad8 (N:Nat) (L:List Int) (c:Int):List Int:=lset N (lset N (lset N (lset N (lset N (lset N (lset N (lset N L (N - 1) (IntKind.u8.wrap (c / 2 ^ 0))) (N - 2) (IntKind.u8.wrap (c / 2 ^ 8))) (N - 3) (IntKind.u8.wrap (c / 2 ^ 16))) (N - 4) (IntKind.u8.wrap (c / 2 ^ 24))) (N - 5) (IntKind.u8.wrap (c / 2 ^ 32))) (N - 6) (IntKind.u8.wrap (c / 2 ^ 40))) (N - 7) (IntKind.u8.wrap (c / 2 ^ 48))) (N - 8) (IntKind.u8.wrap (c / 2 ^ 56))
theorem bL_at {a:Array Value} {p r i:Nat}:(bL a p r).getD i 0=if i<r then iat a (p+i) else 0:=by
  unfold bL
  rw[List.getD_eq_getElem?_getD,List.getElem?_map]
  by_cases h:i<r
  · rw[List.getElem?_range h,if_pos h];rfl
  · rw[List.getElem?_eq_none (by simpa using h),if_neg h];rfl
theorem bL_len (a:Array Value) (p r:Nat):(bL a p r).length=r:=by simp[bL]
theorem cp_ok {a : Array Value} {p r N : Nat} (hb : bytesAt a p r) (hz : p + r ≤ a.size) (hr : r ≤ N) : (0 + r ≤ (wA .u8 N []).size ∧ p + r ≤ a.size) ∧ (a.extract p (p + r)).all (fun v => v.oneCell') = true ∧ Calm.splice (wA .u8 N []) 0 (a.extract p (p + r)) = wA .u8 N (bL a p r) := by
  have hsz:(a.extract p (p+r)).size=r:=by rw[Array.size_extract];omega
  have hat:∀ j,j<r→(a.extract p (p+r))[j]? =some (.int .u8 (iat a (p+j))):=fun j hj=>by
    rw[Array.getElem?_extract_of_lt (by omega),← (hb j hj).1,Array.getElem?_eq_getElem]
  refine⟨⟨by rw[wA_size];omega,hz⟩,?_,?_⟩
  · rw [Array.all_eq_true]
    intro i hi
    have:=hat i (by omega)
    rw[Array.getElem?_eq_getElem hi] at this
    rw[Option.some.inj this];rfl
  · refine wA_ext ?_ (fun i hi => ?_)
    · unfold Calm.splice
      simp[hsz,wA_size]
      omega
    · rw [bL_at]
      have hz2:(wA .u8 N [])[i]? =some (.int .u8 0):=by rw[wA_at hi];rfl
      unfold Calm.splice
      rw[List.getElem?_toArray,List.take_zero,List.nil_append,List.getElem?_append,Array.length_toList,hsz]
      by_cases h:i<r
      · rw[if_pos h,if_pos h,Array.getElem?_toList,hat i h]
      · rw [if_neg h, if_neg h, List.getElem?_drop, Array.getElem?_toList, Nat.zero_add]
        rw[show r+(i - r)=i by omega]
        exact hz2
theorem wu {n:Int} (h0:0≤n) (h1:n<18446744073709551616):IntKind.u64.wrap n=n:=by rw[IntKind.wrap_u64];omega
def tl2 (a:Array Value) (o l:Nat):List Int:=bL a (o+(l - l%64)) (l%64) ++ [128]
def endN2 (l:Nat):Nat:=if 64<l%64+9 then 128 else 64
def endC2 (a:Array Value) (o l:Nat):Array Value:=wA .u8 (endN2 l) (pad8 (endN2 l) (tl2 a o l) ((8*l:Nat):Int))
theorem en2_off {a:Array Value} {o l cp:Nat} (hc:l≤cp):bL a (if cp=Int.toNat ((l - l%64:Nat):Int) then o else o+(Int.toNat ((l - l%64:Nat):Int))*1) (l%64)=bL a (o+(l - l%64)) (l%64):=by
  rw[Int.toNat_natCast,Nat.mul_one]
  by_cases h:l%64=0
  · rw[h];rfl
  · have := Nat.mod_le l 64
    rw[if_neg (by omega)]
theorem en2_b {a:Array Value} {o l cp:Nat} (hb:bytesAt a o l) (hz:o+l≤a.size) (hc:l≤cp):bytesAt a (if cp=Int.toNat ((l - l%64:Nat):Int) then o else o+(Int.toNat ((l - l%64:Nat):Int))*1) (l%64)∧(if cp=Int.toNat ((l - l%64:Nat):Int) then o else o+(Int.toNat ((l - l%64:Nat):Int))*1)+l%64≤a.size:=by
  rw[Int.toNat_natCast,Nat.mul_one]
  have hle:=Nat.mod_le l 64
  by_cases h:l%64=0
  · rw [h]
    exact⟨fun j hj=>by omega,by split<;>omega⟩
  · rw [if_neg (by omega)]
    exact⟨hb.sub (by omega),by omega⟩
theorem End2_c (a:Array Value) (t:Tq) (o l cp:Nat) (hb:bytesAt a o l) (hz:o+l≤a.size) (hc:l≤cp) (hl:l<1152921504606846976):Makes Tryd.prog 21 [(a,t)] [.slice (some ⟨0,o,none⟩) l cp,.int .i64 64,.int .i64 8] (endC2 a o l) 5 (endN2 l) (endN2 l):=by
  have hle:=Nat.mod_le l 64
  have hlt:=Nat.mod_lt l (show 0<64 by decide)
  obtain⟨hb',hz'⟩:=en2_b hb hz hc
  have hmin:∀ N,l%64≤N→Nat.min (l - Int.toNat ((l - l%64:Nat):Int)) N=l%64:=fun N hN=>by
    show min _ _=_
    rw[Int.toNat_natCast];omega
  have q0:((64:Int)≠0)∧(Int.tmod ((l:Nat):Int) 64)=((l%64:Nat):Int):=⟨by decide,by rw[Int.tmod_eq_emod_of_nonneg (by omega)];omega⟩
  have q1:True∧(IntKind.i64.wrap (((l%64:Nat):Int)+1))=((l%64+1:Nat):Int):=⟨trivial,by rw[wi (by omega) (by omega)];omega⟩
  have q2:True∧(IntKind.i64.wrap (((l%64+1:Nat):Int)+8))=((l%64+9:Nat):Int):=⟨trivial,by rw[wi (by omega) (by omega)];omega⟩
  have q3:True∧(IntKind.i64.wrap (((l:Nat):Int) - ((l%64:Nat):Int)))=((l - l%64:Nat):Int):=⟨trivial,by rw[wi (by omega) (by omega)];omega⟩
  have q4:((0≤((l - l%64:Nat):Int))∧True)∧Int.toNat ((l - l%64:Nat):Int)≤l∧l≤cp:=⟨⟨by omega,trivial⟩,by omega,hc⟩
  have q8:True∧(IntKind.u64.wrap ((l:Nat):Int))=((l:Nat):Int):=⟨trivial,wu (by omega) (by omega)⟩
  have q9:True∧(IntKind.u64.wrap (8*((l:Nat):Int)))=((8*l:Nat):Int):=⟨trivial,by rw[wu (by omega) (by omega)];omega⟩
  by_cases h:64<l%64+9
  · have eN : endN2 l = 128 := if_pos h
    unfold endC2
    rw[eN]
    refine makes_runs (fk:=1) Tryd.func21 (c:=bdy Tryd.f21) (by kernel_rfl) ⟨rfl,by decide⟩ rfl (r:=6) (by kernel_rfl) (en2L_r a t o l cp q0 q1 q2 q3 q4 (by rw[hmin 128 (by omega)];exact cp_ok hb' hz' (by omega)) ⟨by omega,by omega⟩ (wA_set (by rw[bL_len];omega) (by rw[bL_len];omega)) q8 q9 (decide_eq_true (by omega))) ?_
    rintro e s ⟨rfl,c,ch,hs⟩
    refine⟨rfl,1,by decide,by subst hs;rfl,?_⟩
    rw[wA_put (by decide),wA_put (by decide),wA_put (by decide),wA_put (by decide),wA_put (by decide),wA_put (by decide),wA_put (by decide),wA_put (by decide),en2_off hc] at hs
    subst hs
    rfl
  · have eN : endN2 l = 64 := if_neg h
    unfold endC2
    rw[eN]
    refine makes_runs (fk:=1) Tryd.func21 (c:=bdy Tryd.f21) (by kernel_rfl) ⟨rfl,by decide⟩ rfl (r:=6) (by kernel_rfl) (en2S_r a t o l cp q0 q1 q2 q3 q4 (by rw[hmin 64 (by omega)];exact cp_ok hb' hz' (by omega)) ⟨by omega,by omega⟩ (wA_set (by rw[bL_len];omega) (by rw[bL_len];omega)) q8 q9 (decide_eq_false (by omega))) ?_
    rintro e s ⟨rfl,c,ch,hs⟩
    refine⟨rfl,1,by decide,by subst hs;rfl,?_⟩
    rw[wA_put (by decide),wA_put (by decide),wA_put (by decide),wA_put (by decide),wA_put (by decide),wA_put (by decide),wA_put (by decide),wA_put (by decide),en2_off hc] at hs
    subst hs
    rfl
def nilL2:List Int:=pad8 64 [128] 0
theorem EndN2_c:Makes Tryd.prog 21 [] [.slice none 0 0,.int .i64 64,.int .i64 8] (wA .u8 64 nilL2) 5 64 64:=by
  refine makes_runs (fk:=0) Tryd.func21 (c:=bdy Tryd.f21) (by kernel_rfl) ⟨rfl,by decide⟩ rfl (r:=6) (by kernel_rfl) en2N_r ?_
  rintro e s ⟨rfl,c,ch,hs⟩
  refine⟨rfl,0,by decide,by subst hs;rfl,?_⟩
  subst hs
  kernel_rfl
def tl5 (a:Array Value) (o l:Nat):List Int:=bL a (o+(l - l%128)) (l%128) ++ [128]
def endN5 (l:Nat):Nat:=if 128<l%128+17 then 256 else 128
def endC5 (a:Array Value) (o l:Nat):Array Value:=wA .u8 (endN5 l) (pad8 (endN5 l) (tl5 a o l) ((8*l:Nat):Int))
theorem en5_off {a:Array Value} {o l cp:Nat} (hc:l≤cp):bL a (if cp=Int.toNat ((l - l%128:Nat):Int) then o else o+(Int.toNat ((l - l%128:Nat):Int))*1) (l%128)=bL a (o+(l - l%128)) (l%128):=by
  rw[Int.toNat_natCast,Nat.mul_one]
  by_cases h:l%128=0
  · rw[h];rfl
  · have := Nat.mod_le l 128
    rw[if_neg (by omega)]
theorem en5_b {a:Array Value} {o l cp:Nat} (hb:bytesAt a o l) (hz:o+l≤a.size) (hc:l≤cp):bytesAt a (if cp=Int.toNat ((l - l%128:Nat):Int) then o else o+(Int.toNat ((l - l%128:Nat):Int))*1) (l%128)∧(if cp=Int.toNat ((l - l%128:Nat):Int) then o else o+(Int.toNat ((l - l%128:Nat):Int))*1)+l%128≤a.size:=by
  rw[Int.toNat_natCast,Nat.mul_one]
  have hle:=Nat.mod_le l 128
  by_cases h:l%128=0
  · rw [h]
    exact⟨fun j hj=>by omega,by split<;>omega⟩
  · rw [if_neg (by omega)]
    exact⟨hb.sub (by omega),by omega⟩
theorem End5_c (a:Array Value) (t:Tq) (o l cp:Nat) (hb:bytesAt a o l) (hz:o+l≤a.size) (hc:l≤cp) (hl:l<1152921504606846976):Makes Tryd.prog 21 [(a,t)] [.slice (some ⟨0,o,none⟩) l cp,.int .i64 128,.int .i64 16] (endC5 a o l) 5 (endN5 l) (endN5 l):=by
  have hle:=Nat.mod_le l 128
  have hlt:=Nat.mod_lt l (show 0<128 by decide)
  obtain⟨hb',hz'⟩:=en5_b hb hz hc
  have hmin:∀ N,l%128≤N→Nat.min (l - Int.toNat ((l - l%128:Nat):Int)) N=l%128:=fun N hN=>by
    show min _ _=_
    rw[Int.toNat_natCast];omega
  have q0:((128:Int)≠0)∧(Int.tmod ((l:Nat):Int) 128)=((l%128:Nat):Int):=⟨by decide,by rw[Int.tmod_eq_emod_of_nonneg (by omega)];omega⟩
  have q1:True∧(IntKind.i64.wrap (((l%128:Nat):Int)+1))=((l%128+1:Nat):Int):=⟨trivial,by rw[wi (by omega) (by omega)];omega⟩
  have q2:True∧(IntKind.i64.wrap (((l%128+1:Nat):Int)+16))=((l%128+17:Nat):Int):=⟨trivial,by rw[wi (by omega) (by omega)];omega⟩
  have q3:True∧(IntKind.i64.wrap (((l:Nat):Int) - ((l%128:Nat):Int)))=((l - l%128:Nat):Int):=⟨trivial,by rw[wi (by omega) (by omega)];omega⟩
  have q4:((0≤((l - l%128:Nat):Int))∧True)∧Int.toNat ((l - l%128:Nat):Int)≤l∧l≤cp:=⟨⟨by omega,trivial⟩,by omega,hc⟩
  have q8:True∧(IntKind.u64.wrap ((l:Nat):Int))=((l:Nat):Int):=⟨trivial,wu (by omega) (by omega)⟩
  have q9:True∧(IntKind.u64.wrap (8*((l:Nat):Int)))=((8*l:Nat):Int):=⟨trivial,by rw[wu (by omega) (by omega)];omega⟩
  by_cases h:128<l%128+17
  · have eN : endN5 l = 256 := if_pos h
    unfold endC5
    rw[eN]
    refine makes_runs (fk:=1) Tryd.func21 (c:=bdy Tryd.f21) (by kernel_rfl) ⟨rfl,by decide⟩ rfl (r:=6) (by kernel_rfl) (en5L_r a t o l cp q0 q1 q2 q3 q4 (by rw[hmin 256 (by omega)];exact cp_ok hb' hz' (by omega)) ⟨by omega,by omega⟩ (wA_set (by rw[bL_len];omega) (by rw[bL_len];omega)) q8 q9 (decide_eq_true (by omega))) ?_
    rintro e s ⟨rfl,c,ch,hs⟩
    refine⟨rfl,1,by decide,by subst hs;rfl,?_⟩
    rw[wA_put (by decide),wA_put (by decide),wA_put (by decide),wA_put (by decide),wA_put (by decide),wA_put (by decide),wA_put (by decide),wA_put (by decide),en5_off hc] at hs
    subst hs
    rfl
  · have eN : endN5 l = 128 := if_neg h
    unfold endC5
    rw[eN]
    refine makes_runs (fk:=1) Tryd.func21 (c:=bdy Tryd.f21) (by kernel_rfl) ⟨rfl,by decide⟩ rfl (r:=6) (by kernel_rfl) (en5S_r a t o l cp q0 q1 q2 q3 q4 (by rw[hmin 128 (by omega)];exact cp_ok hb' hz' (by omega)) ⟨by omega,by omega⟩ (wA_set (by rw[bL_len];omega) (by rw[bL_len];omega)) q8 q9 (decide_eq_false (by omega))) ?_
    rintro e s ⟨rfl,c,ch,hs⟩
    refine⟨rfl,1,by decide,by subst hs;rfl,?_⟩
    rw[wA_put (by decide),wA_put (by decide),wA_put (by decide),wA_put (by decide),wA_put (by decide),wA_put (by decide),wA_put (by decide),wA_put (by decide),en5_off hc] at hs
    subst hs
    rfl
def nilL5:List Int:=pad8 128 [128] 0
theorem EndN5_c:Makes Tryd.prog 21 [] [.slice none 0 0,.int .i64 128,.int .i64 16] (wA .u8 128 nilL5) 5 128 128:=by
  refine makes_runs (fk:=0) Tryd.func21 (c:=bdy Tryd.f21) (by kernel_rfl) ⟨rfl,by decide⟩ rfl (r:=6) (by kernel_rfl) en5N_r ?_
  rintro e s ⟨rfl,c,ch,hs⟩
  refine⟨rfl,0,by decide,by subst hs;rfl,?_⟩
  subst hs
  kernel_rfl
theorem makesS {P:Program} {f:FuncId} {cs C:Array Value} {t:Tq} {e:TypeId} {o l c n k:Nat} {v1 v2:Value} (h:Makes P f [(cs,t)] [.slice (some ⟨0,o,none⟩) l c,v1,v2] C e n k) (h1:np v1=true) (h2:np v2=true) {mem:List Mb} {i:Nat} (hm:mem[i]? =some (cs,t)) {w:World} {β:Nat→Nat} (hw:Has w β mem):Calls P f ([Value.slice (some ⟨i,o,none⟩) l c,v1,v2].map (rn β)).toArray w (fun e' w'=>∃ b,e'= .returned (.slice (some ⟨b,0,none⟩) n k)∧w.heap.size≤b∧w'.heap[b]? =some (.cells C e (0,0))∧Below w.heap.size w w'):=by
  have := h w (fun _ => β i) (fun j x hx => by
    cases j with
    | zero =>
      simp only[List.getElem?_cons_zero,Option.some.injEq] at hx
      subst hx
      exact hw i _ hm
    |succ j=>simp at hx) (fun i h=>by simp at h)
  simp only[List.map_cons,List.map_nil,rn_np h1,rn_np h2] at this ⊢
  exact this
def mEnd : Maker Tryd.prog where
  f:=21
  g := fun mem xs => match xs with
    | [.slice (some ⟨i, o, none⟩) l c, .int .i64 b, .int .i64 m] => (match mem[i]? with
      |some (a,_)=>if b=64∧m=8 then some (endC2 a o l,5,endN2 l,endN2 l,(bytesAt a o l∧o+l≤a.size∧l≤c∧l<1152921504606846976)) else if b=128∧m=16 then some (endC5 a o l,5,endN5 l,endN5 l,(bytesAt a o l∧o+l≤a.size∧l≤c∧l<1152921504606846976)) else none
      |none=>none)
    | [.slice none 0 0,.int .i64 b,.int .i64 m]=>if b=64∧m=8 then some (wA .u8 64 nilL2,5,64,64,True) else if b=128∧m=16 then some (wA .u8 128 nilL5,5,128,128,True) else none
    |_=>none
  ok := fun mem xs cs t n k c e hc w β hw _ => by
    split at e
    · rename_i i o l c0 b m
      split at e
      · rename_i a t0 hm
        split at e
        · rename_i hB
          obtain⟨rfl,rfl⟩:=hB
          simp only[Option.some.injEq,Prod.mk.injEq] at e
          obtain⟨rfl,rfl,rfl,rfl,rfl⟩:=e
          exact makesS (End2_c a t0 o l c0 hc.1 hc.2.1 hc.2.2.1 hc.2.2.2) rfl rfl hm hw
        · split at e
          · rename_i hB
            obtain⟨rfl,rfl⟩:=hB
            simp only[Option.some.injEq,Prod.mk.injEq] at e
            obtain⟨rfl,rfl,rfl,rfl,rfl⟩:=e
            exact makesS (End5_c a t0 o l c0 hc.1 hc.2.1 hc.2.2.1 hc.2.2.2) rfl rfl hm hw
          · cases e
      · cases e
    · split at e
      · rename_i hB
        obtain⟨rfl,rfl⟩:=hB
        simp only[Option.some.injEq,Prod.mk.injEq] at e
        obtain⟨rfl,rfl,rfl,rfl,rfl⟩:=e
        exact EndN2_c w β (fun j x hx=>by simp at hx) (fun i h=>by simp at h)
      · split at e
        · rename_i hB
          obtain⟨rfl,rfl⟩:=hB
          simp only[Option.some.injEq,Prod.mk.injEq] at e
          obtain⟨rfl,rfl,rfl,rfl,rfl⟩:=e
          exact EndN5_c w β (fun j x hx=>by simp at hx) (fun i h=>by simp at h)
        · cases e
    · cases e
  call:=call_of Tryd.func21 (by kernel_rfl) (by kernel_rfl)
end Go.Proofs.YtpmkojinhebihaaDoor
