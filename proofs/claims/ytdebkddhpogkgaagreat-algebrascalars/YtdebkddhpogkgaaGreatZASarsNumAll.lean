import Derived.Test.YtdebkddhpogkgaaGreatZASarsKnown
set_option linter.unusedSimpArgs false
namespace Go.Proofs.YtdebkddhpogkgaaGreat
open Go.RowKit Go.Calm

def nuF (g:Nat→Int):Array Value:=((List.range 8).map fun j=>Value.int .u64 (g j)).toArray
def upd (g:Nat→Int) (k:Nat) (v:Int):Nat→Int:=fun j=>if j=k then v else g j
theorem upd_eq (g:Nat→Int) (k:Nat) (v:Int):upd g k v k=v:=by simp[upd]
theorem upd_ne (g:Nat→Int) (k:Nat) (v:Int) {j:Nat} (h:j≠k):upd g k v j=g j:=by simp[upd,h]
theorem nuF_size (g:Nat→Int):(nuF g).size=8:=by simp[nuF]
theorem nuF_at (g:Nat→Int) (k:Nat) (hk:k<8):(nuF g)[k]? =some (.int .u64 (g k)):=by simp[nuF,hk]
theorem nuF_one (g:Nat→Int):(nuF g).all (·.oneCell')=true:=by simp[nuF,Value.oneCell']
theorem nuF_set (g:Nat→Int) (k:Nat) (v:Int):nuF (upd g k v)=(nuF g).setIfInBounds k (.int .u64 v):=by
  unfold nuF
  apply Array.ext
  · simp
  · intro i h1 h2
    rw[Array.getElem_setIfInBounds (by simpa using h1)]
    simp only[List.getElem_toArray,List.getElem_map,List.getElem_range]
    by_cases h:k=i
    · subst h;simp[upd]
    · rw[if_neg h,upd_ne _ _ _ (fun e=>h e.symm)]
theorem nuF_ext (g h:Nat→Int) (e:∀ j,j<8→g j=h j):nuF g=nuF h:=by
  unfold nuF
  congr 1
  apply List.map_congr_left
  intro j hj
  rw[e j (by simpa using hj)]
theorem aggNu:Calm.AggT Tryz.prog 70 8:=⟨⟨_,Tryz.underlying70,rfl⟩,by kernel_rfl⟩
theorem zeroNu:(Tryz.prog.info? 70).bind (·.zero)=some (.agg (nuF fun _=>0)):=by kernel_rfl
def val (g:Nat→Int):Nat→Int
  |0=>0
  |k+1=>val g k+g k*4294967296 ^ k
theorem val_ext (g h:Nat→Int):∀ k,(∀ j,j<k→g j=h j)→val g k=val h k
  |0,_=>rfl
  |k+1,e=>by simp only[val];rw[val_ext g h k (fun j hj=>e j (by omega)),e k (by omega)]
theorem val_upd (g:Nat→Int) (k:Nat) (v:Int):val (upd g k v) k=val g k:=val_ext _ _ _ fun j hj=>upd_ne _ _ _ (by omega)
theorem val8 (g:Nat→Int):val g 8=g 0+g 1*4294967296+g 2*18446744073709551616+g 3*79228162514264337593543950336+g 4*340282366920938463463374607431768211456+g 5*1461501637330902918203684832716283019655932542976+g 6*6277101735386680763835789423207666416102355444464034512896+g 7*26959946667150639794667015087019630673637144422540572481103610249216:=by
  simp[val]
def nuG (n:Int):Nat→Int:=fun j=>n / 4294967296 ^ j%4294967296
def nuC (n:Int):Array Value:=nuF (nuG n)
theorem nuG_bd (n:Int) (j:Nat):0≤nuG n j∧nuG n j<4294967296:=by unfold nuG;omega
theorem lt8 {P:Nat→Prop} {j:Nat} (hj:j<8) (h0:P 0) (h1:P 1) (h2:P 2) (h3:P 3) (h4:P 4) (h5:P 5) (h6:P 6) (h7:P 7):P j:=by
  have:j=0∨j=1∨j=2∨j=3∨j=4∨j=5∨j=6∨j=7:=by omega
  rcases this with rfl|rfl|rfl|rfl|rfl|rfl|rfl|rfl<;>assumption
theorem bpos (k:Nat):(0:Int)<4294967296 ^ k:=Int.pow_pos (by omega)
theorem val_bd (g:Nat→Int):∀ k,(∀ j,j<k→0≤g j∧g j<4294967296)→0≤val g k∧val g k<4294967296 ^ k
  |0,_=>by simp[val]
  | k + 1, hb => by
    have ih:=val_bd g k (fun j hj=>hb j (by omega))
    have hk:=hb k (by omega)
    have hp:=bpos k
    simp only[val,Int.pow_succ]
    have h1:0≤g k*4294967296 ^ k:=Int.mul_nonneg hk.1 (by omega)
    have h2:g k*4294967296 ^ k≤4294967295*4294967296 ^ k:=Int.mul_le_mul_of_nonneg_right (by omega) (by omega)
    omega
theorem dig (g : Nat → Int) : ∀ k, (∀ j, j < k → 0 ≤ g j ∧ g j < 4294967296) → ∀ j, j < k → val g k / 4294967296 ^ j % 4294967296 = g j
  |0,_,j,hj=>by omega
  | k + 1, hb, j, hj => by
    have hk:=hb k (by omega)
    have hp:=bpos j
    simp only[val]
    by_cases h:j=k
    · subst h
      have hv:=val_bd g j (fun i hi=>hb i (by omega))
      rw[Int.add_mul_ediv_right _ _ (by omega),Int.ediv_eq_zero_of_lt hv.1 hv.2]
      omega
    · have ih := dig g k (fun i hi => hb i (by omega)) j (by omega)
      obtain⟨d,hd⟩:∃ d,k=j+1+d:=⟨k - (j+1),by omega⟩
      have e:g k*4294967296 ^ k=g k*4294967296 ^ d*4294967296*4294967296 ^ j:=by
        rw[hd,Int.pow_add,Int.pow_add]
        grind
      rw[e,Int.add_mul_ediv_right _ _ (by omega),Int.add_mul_emod_self_right]
      exact ih
theorem nuC_of (g:Nat→Int) (hb:∀ j,j<8→0≤g j∧g j<4294967296):nuF g=nuC (val g 8):=
  nuF_ext _ _ fun j hj=>(dig g 8 hb j hj).symm
theorem val_nu (n:Int) (hn:Ok n):val (nuG n) 8=n:=by
  unfold Ok at hn
  rw[val8]
  simp only[nuG]
  simp
  omega
def pd (k:Nat):Int:=if k=0 then 4294967277 else if k=7 then 2147483647 else 4294967295
theorem val_pd:val pd 8=pr:=by kernel_rfl
theorem prime_c (k:Nat) (hk:k<8) (w:World):Calls Tryz.prog 99 #[.int .i64 (k:Int)] w fun e w'=>e= .returned (.int .u64 (pd k))∧Below w.heap.size w w':=by
  have h:k=0∨k=7∨(k≠0∧k≠7):=by omega
  rcases h with rfl|rfl|⟨h0,h7⟩
  · go_enter Tryz.func99, Tryz.ntmps99
    go_wp2
    go_ret
    exact⟨rfl,Below.refl _ _⟩
  · go_enter Tryz.func99, Tryz.ntmps99
    go_wp2
    go_ret
    exact⟨rfl,Below.refl _ _⟩
  · have e0 : decide ((k : Int) = 0) = false := decide_eq_false (by omega)
    have e7:decide ((k:Int)=7)=false:=decide_eq_false (by omega)
    have ep:pd k=4294967295:=by simp[pd,h0,h7]
    rw[ep]
    go_enter Tryz.func99,Tryz.ntmps99
    go_wp2
    go_ret
    exact⟨rfl,Below.refl _ _⟩
end Go.Proofs.YtdebkddhpogkgaaGreat

set_option linter.unusedSimpArgs false
namespace Go.Proofs.YtdebkddhpogkgaaGreat
open Go.RowKit Go.Calm
theorem pd_bd (k:Nat):0≤pd k∧pd k<4294967296:=by unfold pd;repeat(first|omega|split)
theorem val_tail (g h:Nat→Int) (m:Nat) (hm:m<8) (e:∀ j,m<j→j<8→g j=h j):val g 8 - val g (m+1)=val h 8 - val h (m+1):=by
  revert e
  refine lt8 (P:=fun m=>(∀ j,m<j→j<8→g j=h j)→val g 8 - val g (m+1)=val h 8 - val h (m+1)) hm ?_ ?_ ?_ ?_ ?_ ?_ ?_ ?_<;>intro e<;>simp only[val]
  · rw[e 1 (by omega) (by omega),e 2 (by omega) (by omega),e 3 (by omega) (by omega),e 4 (by omega) (by omega),e 5 (by omega) (by omega),e 6 (by omega) (by omega),e 7 (by omega) (by omega)];omega
  · rw[e 2 (by omega) (by omega),e 3 (by omega) (by omega),e 4 (by omega) (by omega),e 5 (by omega) (by omega),e 6 (by omega) (by omega),e 7 (by omega) (by omega)];omega
  · rw[e 3 (by omega) (by omega),e 4 (by omega) (by omega),e 5 (by omega) (by omega),e 6 (by omega) (by omega),e 7 (by omega) (by omega)];omega
  · rw[e 4 (by omega) (by omega),e 5 (by omega) (by omega),e 6 (by omega) (by omega),e 7 (by omega) (by omega)];omega
  · rw[e 5 (by omega) (by omega),e 6 (by omega) (by omega),e 7 (by omega) (by omega)];omega
  · rw[e 6 (by omega) (by omega),e 7 (by omega) (by omega)];omega
  · rw[e 7 (by omega) (by omega)];omega
  · omega
theorem val_cmp (g h:Nat→Int) (m:Nat) (hm:m<8) (hg:∀ j,j<8→0≤g j∧g j<4294967296) (hh:∀ j,j<8→0≤h j∧h j<4294967296) (e:∀ j,m<j→j<8→g j=h j) (hlt:g m<h m):val g 8<val h 8:=by
  have h1:=val_tail g h m hm e
  have a:=val_bd g m (fun j hj=>hg j (by omega))
  have b:=val_bd h m (fun j hj=>hh j (by omega))
  rw[show val g (m+1)=val g m+g m*4294967296 ^ m from rfl,show val h (m+1)=val h m+h m*4294967296 ^ m from rfl] at h1
  have hp:=bpos m
  have h2:(g m+1)*4294967296 ^ m≤h m*4294967296 ^ m:=Int.mul_le_mul_of_nonneg_right (by omega) (by omega)
  rw[Int.add_mul,Int.one_mul] at h2
  omega
set_option maxHeartbeats 1000000 in
theorem below_c (g : Nat → Int) (hg : ∀ j, j < 8 → 0 ≤ g j ∧ g j < 4294967296) (w : World) : Calls Tryz.prog 103 #[.agg (nuF g)] w fun e w' => e = .returned (.bool (decide (val g 8 < pr))) ∧ Below w.heap.size w w' := by
  have S:=Calm.St.start w
  go_enter Tryz.func103,Tryz.ntmps103
  go_wp2_with ((refine wl_box S rfl rfl rfl ?_;clear S;intro b W S))
  rename_i K hK
  go_loopw [3] (fun i Wr=>∃ k:Nat,k≤8∧i= .int .i64 ((k:Int) - 1)∧(∀ j,k≤j→j<8→g j=pd j)∧Calm.St w Wr [⟨b,nuF g,70⟩]) (fun i _=>(intOf i+1).toNat)
  case atStart=>exact⟨8,by omega,rfl,fun j h1 h2=>by omega,S⟩
  case round =>
    clear S
    obtain⟨k,hk,rfl,he,S⟩:=hrel
    by_cases h0:k=0
    · subst h0
      have ev:val g 8=pr:=by rw[← val_pd];exact val_ext _ _ _ fun j hj=>he j (by omega) hj
      have ed:decide (val g 8<pr)=false:=decide_eq_false (by omega)
      rw[show((0:Nat):Int) - 1= -1 from rfl]
      go_wp2_with (first|(refine wl_box S rfl rfl rfl ?_;clear S;intro b W S)|(refine wl_new (ty:=58) S rfl rfl zeroFe ?_;clear S;intro b W S)|(refine g_load (ty:=58) rfl ?_;refine wl_load (ty:=58) S rfl rfl rfl (by repeat constructor) aggFe (by rfl) ?_)|(refine g_store (ty:=58) rfl ?_;refine wl_store (ty:=58) S rfl rfl rfl rfl (by repeat(first|exact foc_hd|apply foc_tl)) aggFe rfl (by rfl) (w4_one _ _ _ _) ?_;clear S;intro W S)|(refine g_load (ty:=24) rfl ?_;refine wl_loadE (ty:=24) S rfl rfl rfl (by repeat constructor) (by rfl) one64 ?_)|(refine g_store (ty:=24) rfl ?_;refine wl_storeE (ty:=24) S rfl rfl rfl rfl (by rfl) (by repeat(first|exact foc_hd|apply foc_tl)) one64 (by simp) rfl ?_;clear S;intro W S;simp only[Act.eval,zQ] at S))
      go_ret
      exact⟨by rw[ed];rfl,S.below⟩
    · obtain ⟨m, rfl⟩ : ∃ m, k = m + 1 := ⟨k - 1, by omega⟩
      have em:((m+1:Nat):Int) - 1=(m:Int):=by omega
      rw[em]
      have hm8:(m:Int)<8:=by omega
      have Hx:=hide (nuF_at g m (by omega))
      have Hp:=hide (fun w=>prime_c m (by omega) w)
      go_wp2_with (first|(refine wl_box S rfl rfl rfl ?_;clear S;intro b W S)|(refine wl_new (ty:=58) S rfl rfl zeroFe ?_;clear S;intro b W S)|(refine g_load (ty:=58) rfl ?_;refine wl_load (ty:=58) S rfl rfl rfl (by repeat constructor) aggFe (by rfl) ?_)|(refine g_store (ty:=58) rfl ?_;refine wl_store (ty:=58) S rfl rfl rfl rfl (by repeat(first|exact foc_hd|apply foc_tl)) aggFe rfl (by rfl) (w4_one _ _ _ _) ?_;clear S;intro W S)|(refine g_load (ty:=24) rfl ?_;refine wl_loadE (ty:=24) S rfl rfl rfl (by repeat constructor) (by rfl) one64 ?_)|(refine g_store (ty:=24) rfl ?_;refine wl_storeE (ty:=24) S rfl rfl rfl rfl (by rfl) (by repeat(first|exact foc_hd|apply foc_tl)) one64 (by simp) rfl ?_;clear S;intro W S;simp only[Act.eval,zQ] at S))
      refine Calm.region0 S 6 (by kernel_rfl) (by kernel_rfl) (fun S=> ?_)
      iterate 2 (first|(refine wn_move rfl (by rfl) (Or.inl rfl) ?_;simp only[Act.put,Act.eval,zQ])|(apply wn_val rfl (by rfl);(intro w;go_simp;rfl);simp only[Act.put,Act.eval,zQ]))
      refine Calm.gn_load (ty:=24) rfl ?_
      refine wn_loadE (ty:=24) (b:=b) S rfl (by rfl) rfl rfl (by repeat constructor) Hx.out one64 ?_
      simp only[Act.put,Act.eval,zQ]
      repeat(first|(refine wn_move rfl (by rfl) (Or.inl rfl) ?_;simp only[Act.put,Act.eval,zQ])|(apply wn_call (f:=99) rfl (by rfl) rfl;(intro w;go_simp;rfl);(intro w;exact Hp.out w);simp only[Act.put,Act.eval,zQ])|(apply wn_val rfl (by rfl);(intro w;go_simp;rfl);simp only[Act.put,Act.eval,zQ]))
      (refine wn_nil ?_;clear S;intro W S;simp only[Act.put,List.setIfInBounds_toArray,List.set_cons_zero,List.set_cons_succ,List.drop_succ_cons,List.drop_zero,List.drop_nil])
      by_cases hne:g m=pd m
      · go_wp2_with (first | (refine wl_box S rfl rfl rfl ?_; clear S; intro b W S) | (refine wl_new (ty := 58) S rfl rfl zeroFe ?_; clear S; intro b W S) | (refine g_load (ty := 58) rfl ?_; refine wl_load (ty := 58) S rfl rfl rfl (by repeat constructor) aggFe (by rfl) ?_) | (refine g_store (ty := 58) rfl ?_; refine wl_store (ty := 58) S rfl rfl rfl rfl (by repeat (first | exact foc_hd | apply foc_tl)) aggFe rfl (by rfl) (w4_one _ _ _ _) ?_; clear S; intro W S) | (refine g_load (ty := 24) rfl ?_; refine wl_loadE (ty := 24) S rfl rfl rfl (by repeat constructor) (by rfl) one64 ?_) | (refine g_store (ty := 24) rfl ?_; refine wl_storeE (ty := 24) S rfl rfl rfl rfl (by rfl) (by repeat (first | exact foc_hd | apply foc_tl)) one64 (by simp) rfl ?_; clear S; intro W S; simp only [Act.eval, zQ] at S))
        go_roundw
        case rel=>exact⟨m,by omega,by go_num,fun j h1 h2=>by
          by_cases h:j=m
          · subst h;exact hne
          · exact he j (by omega) h2,S⟩
        case measure=>simp[intOf]
      · go_wp2_with (first | (refine wl_box S rfl rfl rfl ?_; clear S; intro b W S) | (refine wl_new (ty := 58) S rfl rfl zeroFe ?_; clear S; intro b W S) | (refine g_load (ty := 58) rfl ?_; refine wl_load (ty := 58) S rfl rfl rfl (by repeat constructor) aggFe (by rfl) ?_) | (refine g_store (ty := 58) rfl ?_; refine wl_store (ty := 58) S rfl rfl rfl rfl (by repeat (first | exact foc_hd | apply foc_tl)) aggFe rfl (by rfl) (w4_one _ _ _ _) ?_; clear S; intro W S) | (refine g_load (ty := 24) rfl ?_; refine wl_loadE (ty := 24) S rfl rfl rfl (by repeat constructor) (by rfl) one64 ?_) | (refine g_store (ty := 24) rfl ?_; refine wl_storeE (ty := 24) S rfl rfl rfl rfl (by rfl) (by repeat (first | exact foc_hd | apply foc_tl)) one64 (by simp) rfl ?_; clear S; intro W S; simp only [Act.eval, zQ] at S))
        refine Calm.region0 S 6 (by kernel_rfl) (by kernel_rfl) (fun S=> ?_)
        iterate 2 (first|(refine wn_move rfl (by rfl) (Or.inl rfl) ?_;simp only[Act.put,Act.eval,zQ])|(apply wn_val rfl (by rfl);(intro w;go_simp;rfl);simp only[Act.put,Act.eval,zQ]))
        refine Calm.gn_load (ty:=24) rfl ?_
        refine wn_loadE (ty:=24) (b:=b) S rfl (by rfl) rfl rfl (by repeat constructor) Hx.out one64 ?_
        simp only[Act.put,Act.eval,zQ]
        repeat(first|(refine wn_move rfl (by rfl) (Or.inl rfl) ?_;simp only[Act.put,Act.eval,zQ])|(apply wn_call (f:=99) rfl (by rfl) rfl;(intro w;go_simp;rfl);(intro w;exact Hp.out w);simp only[Act.put,Act.eval,zQ])|(apply wn_val rfl (by rfl);(intro w;go_simp;rfl);simp only[Act.put,Act.eval,zQ]))
        (refine wn_nil ?_;clear S;intro W S;simp only[Act.put,List.setIfInBounds_toArray,List.set_cons_zero,List.set_cons_succ,List.drop_succ_cons,List.drop_zero,List.drop_nil])
        go_wp2_with (first|(refine wl_box S rfl rfl rfl ?_;clear S;intro b W S)|(refine wl_new (ty:=58) S rfl rfl zeroFe ?_;clear S;intro b W S)|(refine g_load (ty:=58) rfl ?_;refine wl_load (ty:=58) S rfl rfl rfl (by repeat constructor) aggFe (by rfl) ?_)|(refine g_store (ty:=58) rfl ?_;refine wl_store (ty:=58) S rfl rfl rfl rfl (by repeat(first|exact foc_hd|apply foc_tl)) aggFe rfl (by rfl) (w4_one _ _ _ _) ?_;clear S;intro W S)|(refine g_load (ty:=24) rfl ?_;refine wl_loadE (ty:=24) S rfl rfl rfl (by repeat constructor) (by rfl) one64 ?_)|(refine g_store (ty:=24) rfl ?_;refine wl_storeE (ty:=24) S rfl rfl rfl rfl (by rfl) (by repeat(first|exact foc_hd|apply foc_tl)) one64 (by simp) rfl ?_;clear S;intro W S;simp only[Act.eval,zQ] at S))
        go_ret
        have ed : decide (val g 8 < pr) = decide (g m < pd m) := by
          rw[← val_pd]
          rcases Int.lt_or_gt_of_ne hne with h|h
          · rw[decide_eq_true h,decide_eq_true (val_cmp g pd m (by omega) hg (fun j _=>pd_bd j) (fun j h1 h2=>he j (by omega) h2) h)]
          · have := val_cmp pd g m (by omega) (fun j _ => pd_bd j) hg (fun j h1 h2 => (he j (by omega) h2).symm) h
            rw[decide_eq_false (show ¬ val g 8<val pd 8 by omega),decide_eq_false (show ¬ g m<pd m by omega)]
        exact⟨by rw[ed];rfl,S.below⟩
end Go.Proofs.YtdebkddhpogkgaaGreat

set_option linter.unusedSimpArgs false
namespace Go.Proofs.YtdebkddhpogkgaaGreat
open Go.RowKit Go.Calm
theorem b8:(4294967296:Int) ^ 8=115792089237316195423570985008687907853269984665640564039457584007913129639936:=rfl
structure Car (f g:Nat→Int) (c:Int) (k:Nat):Prop where
  lo:∀ j,j<k→0≤g j∧g j<4294967296
  hi:∀ j,k≤j→j<8→g j=f j
  c0:0≤c
  c1:c≤512
  eq:val g k+c*4294967296 ^ k=val f k
theorem Car.start (f:Nat→Int):Car f f 0 0:=⟨fun j h=>by omega,fun _ _ _=>rfl,by omega,by omega,by simp[val]⟩
theorem Car.step {f g:Nat→Int} {c:Int} {k:Nat} (h:Car f g c k) (hk:k<8) (hf:0≤f k∧f k<1099511627776):Car f (upd g k ((c+g k)%4294967296)) ((c+g k) / 4294967296) (k+1):=by
  have hgk:=h.hi k (by omega) hk
  have hc0:=h.c0
  have hc1:=h.c1
  refine⟨fun j hj=> ?_,fun j h1 h2=> ?_,by omega,by omega,?_⟩
  · by_cases e : j = k
    · subst e;rw[upd_eq];omega
    · rw[upd_ne _ _ _ e];exact h.lo j (by omega)
  · rw[upd_ne _ _ _ (by omega)];exact h.hi j (by omega) h2
  · have he := h.eq
    simp only[val]
    rw[upd_eq,val_upd,← he,← hgk,Int.pow_succ]
    have hd:=Int.emod_add_mul_ediv (c+g k) 4294967296
    generalize(c+g k)%4294967296=r at*
    generalize(c+g k) / 4294967296=q at*
    have:g k=r+4294967296*q - c:=by omega
    rw[this]
    grind
structure Pas (k:Nat) (g:Nat→Int):Prop where
  bd:∀ j,j<8→0≤g j∧g j<1099511627776
  one:1≤k→∀ j,1≤j→j<8→g j<4294967296
  lo:1≤k→g 0<4294986752
  two:2≤k→g 0<4294967296
theorem val_up0 (h:Nat→Int) (v:Int):val (upd h 0 v) 8=val h 8 - h 0+v:=by
  rw[val8,val8,upd_eq,upd_ne _ _ _ (by omega),upd_ne _ _ _ (by omega),upd_ne _ _ _ (by omega),upd_ne _ _ _ (by omega),upd_ne _ _ _ (by omega),upd_ne _ _ _ (by omega),upd_ne _ _ _ (by omega)]
  omega
theorem val_up7 (h:Nat→Int) (v:Int):val (upd h 7 v) 8=val h 8+(v - h 7)*26959946667150639794667015087019630673637144422540572481103610249216:=by
  rw[val8,val8,upd_eq,upd_ne _ _ _ (by omega),upd_ne _ _ _ (by omega),upd_ne _ _ _ (by omega),upd_ne _ _ _ (by omega),upd_ne _ _ _ (by omega),upd_ne _ _ _ (by omega),upd_ne _ _ _ (by omega)]
  omega
theorem val_ge0 (h:Nat→Int) (hb:∀ j,j<8→0≤h j∧h j<4294967296):h 0≤val h 8:=by
  rw[val8]
  have b1:=hb 1 (by omega)
  have b2:=hb 2 (by omega)
  have b3:=hb 3 (by omega)
  have b4:=hb 4 (by omega)
  have b5:=hb 5 (by omega)
  have b6:=hb 6 (by omega)
  have b7:=hb 7 (by omega)
  omega
theorem val_le1 (g:Nat→Int) (x:Int) (h0:g 0<4294967296+x) (hb:∀ j,1≤j→j<8→g j<4294967296):val g 8<115792089237316195423570985008687907853269984665640564039457584007913129639936+x:=by
  rw[val8]
  have b1:=hb 1 (by omega) (by omega)
  have b2:=hb 2 (by omega) (by omega)
  have b3:=hb 3 (by omega) (by omega)
  have b4:=hb 4 (by omega) (by omega)
  have b5:=hb 5 (by omega) (by omega)
  have b6:=hb 6 (by omega) (by omega)
  have b7:=hb 7 (by omega) (by omega)
  omega
theorem Pas.step {k:Nat} {g h:Nat→Int} {c:Int} (P:Pas k g) (C:Car g h c 8):Pas (k+1) (upd h 0 (h 0+38*c)):=by
  have hc0:=C.c0
  have hc1:=C.c1
  have h0:=C.lo 0 (by omega)
  refine⟨fun j hj=> ?_,fun _ j h1 h2=> ?_,fun _=> ?_,fun h2=> ?_⟩
  · by_cases e : j = 0
    · subst e;rw[upd_eq];omega
    · rw[upd_ne _ _ _ e];have:=C.lo j hj;omega
  · rw[upd_ne _ _ _ (by omega)];exact(C.lo j h2).2
  · rw[upd_eq];omega
  · rw [upd_eq]
    have e:=C.eq
    rw[b8] at e
    have hv:=val_bd h 8 C.lo
    rw[b8] at hv
    have hg:=val_ge0 h C.lo
    have hl:=val_le1 g 19456 (by have:=P.lo (by omega);omega) (P.one (by omega))
    generalize val h 8=x at*
    generalize val g 8=y at*
    have:c=0∨c=1:=by omega
    rcases this with rfl|rfl<;>omega
theorem pas_val {g h:Nat→Int} {c:Int} (C:Car g h c 8):val (upd h 0 (h 0+38*c)) 8%pr=val g 8%pr:=by
  rw[val_up0,← C.eq,b8]
  unfold pr
  omega
def top (g:Nat→Int):Nat→Int:=upd (upd g 0 (g 0+19*(g 7 / 2147483648))) 7 (g 7%2147483648)
theorem top_val (g:Nat→Int):val (top g) 8=val g 8 - (g 7 / 2147483648)*(57896044618658097711785492504343953926634992332820282019728792003956564819968 - 19):=by
  unfold top
  rw[val_up7,val_up0,upd_ne _ _ _ (by omega)]
  omega
theorem top_mod (g:Nat→Int):val (top g) 8%pr=val g 8%pr:=by
  rw[top_val];unfold pr;omega
theorem top_bd {g:Nat→Int} (P:Pas 3 g):∀ j,j<8→0≤top g j∧top g j<1099511627776:=by
  intro j hj
  unfold top
  have h7:=P.bd 7 (by omega)
  have h7':=P.one (by omega) 7 (by omega) (by omega)
  have h0:=P.bd 0 (by omega)
  have h0':=P.two (by omega)
  by_cases e:j=7
  · subst e;rw[upd_eq];omega
  · rw [upd_ne _ _ _ e]
    by_cases e0:j=0
    · subst e0;rw[upd_eq];omega
    · rw[upd_ne _ _ _ e0];exact P.bd j hj
theorem top_lt {g:Nat→Int} (P:Pas 3 g):val (top g) 8<57896044618658097711785492504343953926634992332820282019728792003956564819968+19:=by
  rw[top_val,val8]
  have b1:=P.one (by omega) 1 (by omega) (by omega)
  have b2:=P.one (by omega) 2 (by omega) (by omega)
  have b3:=P.one (by omega) 3 (by omega) (by omega)
  have b4:=P.one (by omega) 4 (by omega) (by omega)
  have b5:=P.one (by omega) 5 (by omega) (by omega)
  have b6:=P.one (by omega) 6 (by omega) (by omega)
  have b7:=P.one (by omega) 7 (by omega) (by omega)
  have b0:=P.two (by omega)
  have c7:=P.bd 7 (by omega)
  have:g 7 / 2147483648=0∨g 7 / 2147483648=1:=by omega
  rcases this with e|e<;>rw[e]<;>omega
structure Bor (p h g:Nat→Int) (c:Int) (k:Nat):Prop where
  lo:∀ j,j<k→0≤g j∧g j<4294967296
  hi:∀ j,k≤j→j<8→g j=h j
  c0:0≤c
  c1:c≤1
  eq:val g k - c*4294967296 ^ k=val h k - val p k
theorem Bor.start (p h:Nat→Int):Bor p h h 0 0:=⟨fun j h=>by omega,fun _ _ _=>rfl,by omega,by omega,by simp[val]⟩
theorem Bor.step {p h g:Nat→Int} {c:Int} {k:Nat} (H:Bor p h g c k) (hk:k<8) (hh:0≤h k∧h k<4294967296) (hp:0≤p k∧p k<4294967296):Bor p h (upd g k ((4294967296+g k - p k - c)%4294967296)) (1 - (4294967296+g k - p k - c) / 4294967296) (k+1):=by
  have hgk:=H.hi k (by omega) hk
  have hc0:=H.c0
  have hc1:=H.c1
  refine⟨fun j hj=> ?_,fun j h1 h2=> ?_,by omega,by omega,?_⟩
  · by_cases e : j = k
    · subst e;rw[upd_eq];omega
    · rw[upd_ne _ _ _ e];exact H.lo j (by omega)
  · rw[upd_ne _ _ _ (by omega)];exact H.hi j (by omega) h2
  · have he := H.eq
    simp only[val]
    rw[upd_eq,val_upd,← hgk,Int.pow_succ]
    have hd:=Int.emod_add_mul_ediv (4294967296+g k - p k - c) 4294967296
    generalize(4294967296+g k - p k - c)%4294967296=r at*
    generalize(4294967296+g k - p k - c) / 4294967296=q at*
    have e1:g k=r+4294967296*q - 4294967296+p k+c:=by omega
    rw[e1]
    have e2:val h k=val g k - c*4294967296 ^ k+val p k:=by omega
    rw[e2]
    grind
set_option maxHeartbeats 2000000 in
theorem Reduce_c (f : Nat → Int) (hf : ∀ j, j < 8 → 0 ≤ f j ∧ f j < 1099511627776) (w : World) : Calls Tryz.prog 91 #[.agg (nuF f)] w fun e w' => e = .returned (.agg (nuC (val f 8 % pr))) ∧ Below w.heap.size w w' := by
  have S:=Calm.St.start w
  go_enter Tryz.func91,Tryz.ntmps91
  go_wp2_with (first|(refine wl_box S rfl rfl rfl ?_;clear S;intro b W S)|(refine wl_new (ty:=70) S rfl rfl zeroNu ?_;clear S;intro b W S))
  rename_i bA _ K hK
  go_loopw [3] (fun i Wr=>∃(k:Nat) (g:Nat→Int),k≤3∧i= .int .i64 (k:Int)∧Pas k g∧val g 8%pr=val f 8%pr∧Calm.St w Wr [⟨b,nuF (fun _=>0),70⟩,⟨bA,nuF g,70⟩]) (fun i _=>3 - (intOf i).toNat)
  case atStart=>exact⟨0,f,by omega,rfl,⟨hf,fun h=>by omega,fun h=>by omega,fun h=>by omega⟩,rfl,S⟩
  case round =>
    clear S
    obtain⟨k,g,hk,rfl,hg,hv,S⟩:=hrel
    by_cases hlt:k<3
    · have hlt' : (k : Int) < 3 := by omega
      go_wp2_with (first|(refine wl_box S rfl rfl rfl ?_;clear S;intro b W S)|(refine wl_new (ty:=58) S rfl rfl zeroFe ?_;clear S;intro b W S)|(refine g_load (ty:=58) rfl ?_;refine wl_load (ty:=58) S rfl rfl rfl (by repeat constructor) aggFe (by rfl) ?_)|(refine g_store (ty:=58) rfl ?_;refine wl_store (ty:=58) S rfl rfl rfl rfl (by repeat(first|exact foc_hd|apply foc_tl)) aggFe rfl (by rfl) (w4_one _ _ _ _) ?_;clear S;intro W S)|(refine g_load (ty:=24) rfl ?_;refine wl_loadE (ty:=24) S rfl rfl rfl (by repeat constructor) (by rfl) one64 ?_)|(refine g_store (ty:=24) rfl ?_;refine wl_storeE (ty:=24) S rfl rfl rfl rfl (by rfl) (by repeat(first|exact foc_hd|apply foc_tl)) one64 (by simp) rfl ?_;clear S;intro W S;simp only[Act.eval,zQ] at S))
      rename_i K2 hK2
      go_loopw [4,5] (fun cc i Wr=>∃(m:Nat) (h:Nat→Int) (c:Int),m≤8∧i= .int .i64 (m:Int)∧cc= .int .u64 c∧Car g h c m∧Calm.St w Wr [⟨b,nuF (fun _=>0),70⟩,⟨bA,nuF h,70⟩]) (fun _ i _=>8 - (intOf i).toNat)
      case atStart=>exact⟨0,g,0,by omega,rfl,rfl,Car.start g,S⟩
      case round =>
        clear S
        obtain⟨m,h,c,hm,rfl,rfl,hC,S⟩:=hrel
        by_cases hm8:m<8
        · have hm8' : (m : Int) < 8 := by omega
          have Hx:=hide (nuF_at h m hm8)
          have hc0:=hC.c0
          have hc1:=hC.c1
          have hgk:=hC.hi m (by omega) hm8
          have hgb:=hg.bd m hm8
          rw[← hgk] at hgb
          clear hgk
          go_wp2_with (first|(refine g_load (ty:=24) rfl ?_;refine wl_loadE (ty:=24) (b:=bA) S rfl rfl rfl (by repeat constructor) Hx.out one64 ?_)|(refine g_store (ty:=24) rfl ?_;refine wl_storeE (ty:=24) (b:=bA) (cs:=nuF (upd h m ((c+h m)%4294967296))) S rfl rfl rfl rfl (nuF_set _ _ _) (by repeat(first|exact foc_hd|apply foc_tl)) one64 (by rw[nuF_size];omega) rfl ?_;clear S;intro W S))
          go_roundw
          case rel=>exact⟨m+1,_,_,by omega,by go_num,rfl,hC.step hm8 (hg.bd m hm8),S⟩
          case measure=>simp[intOf];omega
        · have hm' : m = 8 := by omega
          subst hm'
          have hc0:=hC.c0
          have hc1:=hC.c1
          have Hx:=hide (nuF_at h 0 (by omega))
          have hb0:=hC.lo 0 (by omega)
          go_wp2_with (first|(refine g_load (ty:=24) rfl ?_;refine wl_loadE (ty:=24) (b:=bA) S rfl rfl rfl (by repeat constructor) Hx.out one64 ?_)|(refine g_store (ty:=24) rfl ?_;refine wl_storeE (ty:=24) (b:=bA) (cs:=nuF (upd h 0 (h 0+38*c))) S rfl rfl rfl rfl (nuF_set _ _ _) (by repeat(first|exact foc_hd|apply foc_tl)) one64 (by rw[nuF_size];omega) rfl ?_;clear S;intro W S))
          go_roundw
          case rel=>exact⟨k+1,_,by omega,by go_num,hg.step hC,by rw[pas_val hC,hv],S⟩
          case measure=>simp[intOf];omega
    · have hk' : k = 3 := by omega
      subst hk'
      have Hx0:=hide (nuF_at g 0 (by omega))
      have Hx7:=hide (nuF_at g 7 (by omega))
      have Hy7:Hid ((nuF (upd g 0 (g 0+19*(g 7 / 2147483648))))[7]? =some (.int .u64 (g 7))):=by
        have:=nuF_at (upd g 0 (g 0+19*(g 7 / 2147483648))) 7 (by omega)
        rw[upd_ne _ _ _ (by omega)] at this
        exact this
      have h0:=hg.bd 0 (by omega)
      have h7:=hg.bd 7 (by omega)
      go_wp2_with (first|(refine g_load (ty:=24) rfl ?_;refine wl_loadE (ty:=24) (b:=bA) S rfl rfl rfl (by repeat constructor) (by first|exact Hx0.out|exact Hx7.out|exact Hy7.out) one64 ?_)|(refine g_store (ty:=24) rfl ?_;refine wl_storeE (ty:=24) (b:=bA) (cs:=nuF (upd g 0 (g 0+19*(g 7 / 2147483648)))) S rfl rfl rfl rfl (nuF_set _ _ _) (by repeat(first|exact foc_hd|apply foc_tl)) one64 (by rw[nuF_size];omega) rfl ?_;clear S;intro W S)|(refine g_store (ty:=24) rfl ?_;refine wl_storeE (ty:=24) (b:=bA) (cs:=nuF (top g)) S rfl rfl rfl rfl (nuF_set _ _ _) (by repeat(first|exact foc_hd|apply foc_tl)) one64 (by rw[nuF_size];omega) rfl ?_;clear S;intro W S))
      rename_i K2 hK2
      have hT:=top_bd hg
      have hTl:=top_lt hg
      have hTm:=(top_mod g).trans hv
      clear hg hv Hx0 Hx7 Hy7 h0 h7
      generalize top g=q at*
      go_loopw [6,7] (fun cc i Wr=>∃(m:Nat) (h:Nat→Int) (c:Int),m≤8∧i= .int .i64 (m:Int)∧cc= .int .u64 c∧Car q h c m∧Calm.St w Wr [⟨b,nuF (fun _=>0),70⟩,⟨bA,nuF h,70⟩]) (fun _ i _=>8 - (intOf i).toNat)
      case atStart=>exact⟨0,q,0,by omega,rfl,rfl,Car.start q,S⟩
      case round =>
        clear S
        obtain⟨m,h,c,hm,rfl,rfl,hC,S⟩:=hrel
        by_cases hm8:m<8
        · have hm8' : (m : Int) < 8 := by omega
          have Hx:=hide (nuF_at h m hm8)
          have hc0:=hC.c0
          have hc1:=hC.c1
          have hgk:=hC.hi m (by omega) hm8
          have hgb:=hT m hm8
          rw[← hgk] at hgb
          clear hgk
          go_wp2_with (first|(refine g_load (ty:=24) rfl ?_;refine wl_loadE (ty:=24) (b:=bA) S rfl rfl rfl (by repeat constructor) Hx.out one64 ?_)|(refine g_store (ty:=24) rfl ?_;refine wl_storeE (ty:=24) (b:=bA) (cs:=nuF (upd h m ((c+h m)%4294967296))) S rfl rfl rfl rfl (nuF_set _ _ _) (by repeat(first|exact foc_hd|apply foc_tl)) one64 (by rw[nuF_size];omega) rfl ?_;clear S;intro W S))
          go_roundw
          case rel=>exact⟨m+1,_,_,by omega,by go_num,rfl,hC.step hm8 (hT m hm8),S⟩
          case measure=>simp[intOf];omega
        · have hm' : m = 8 := by omega
          subst hm'
          have hlo:=hC.lo
          have hbd:=val_bd h 8 hlo
          have heq:=hC.eq
          have hc0:=hC.c0
          rw[b8] at hbd heq
          have hcz:c=0:=by omega
          subst hcz
          have hvh:val h 8=val q 8:=by omega
          rw[← hvh] at hTl hTm
          clear hbd heq hc0 hC hvh
          go_wp2_with ((refine g_load (ty:=70) rfl ?_;refine wl_load (ty:=70) S rfl rfl rfl (by repeat constructor) aggNu (by rw[nuF_size]) ?_))
          by_cases hlt:val h 8<pr
          · refine (below_c h hlo _).mono ?_
            rintro e W1 ⟨he,hb⟩
            rw[decide_eq_true hlt] at he
            subst he
            have S:=S.call hb
            clear hb
            have hfin:nuF h=nuC (val f 8%pr):=by
              rw[nuC_of h hlo,← hTm]
              congr 1
              have:=val_bd h 8 hlo
              unfold pr at*
              omega
            have Hfin:=hide hfin
            clear hfin
            go_wp2_with (first|(refine g_load (ty:=70) rfl ?_;refine wl_load (ty:=70) S rfl rfl rfl (by repeat constructor) aggNu (by rw[nuF_size]) ?_)|(refine g_store (ty:=70) rfl ?_;refine wl_store (ty:=70) S rfl rfl rfl rfl (by repeat(first|exact foc_hd|apply foc_tl)) aggNu (by rw[nuF_size]) (by rw[nuF_size]) (nuF_one _) ?_;clear S;intro W S))
            refine Calm.ret_cell S (by rfl) (by rfl) (by repeat constructor) aggNu (by rw[nuF_size]) (by rfl) ?_
            exact⟨by rw[Hfin.out],S.below⟩
          · refine (below_c h hlo _).mono ?_
            rintro e W1 ⟨he,hb⟩
            rw[decide_eq_false hlt] at he
            subst he
            have S:=S.call hb
            clear hb
            go_wp2_with (first|(refine wl_box S rfl rfl rfl ?_;clear S;intro b W S)|(refine wl_new (ty:=58) S rfl rfl zeroFe ?_;clear S;intro b W S)|(refine g_load (ty:=58) rfl ?_;refine wl_load (ty:=58) S rfl rfl rfl (by repeat constructor) aggFe (by rfl) ?_)|(refine g_store (ty:=58) rfl ?_;refine wl_store (ty:=58) S rfl rfl rfl rfl (by repeat(first|exact foc_hd|apply foc_tl)) aggFe rfl (by rfl) (w4_one _ _ _ _) ?_;clear S;intro W S)|(refine g_load (ty:=24) rfl ?_;refine wl_loadE (ty:=24) S rfl rfl rfl (by repeat constructor) (by rfl) one64 ?_)|(refine g_store (ty:=24) rfl ?_;refine wl_storeE (ty:=24) S rfl rfl rfl rfl (by rfl) (by repeat(first|exact foc_hd|apply foc_tl)) one64 (by simp) rfl ?_;clear S;intro W S;simp only[Act.eval,zQ] at S))
            rename_i K3 hK3
            go_loopw [8,9] (fun cc i Wr=>∃(m:Nat) (g:Nat→Int) (c:Int),m≤8∧i= .int .i64 (m:Int)∧cc= .int .u64 c∧Bor pd h g c m∧Calm.St w Wr [⟨b,nuF (fun _=>0),70⟩,⟨bA,nuF g,70⟩]) (fun _ i _=>8 - (intOf i).toNat)
            case atStart=>exact⟨0,h,0,by omega,rfl,rfl,Bor.start pd h,S⟩
            case round =>
              clear S
              obtain⟨m,g,c,hm,rfl,rfl,hC,S⟩:=hrel
              by_cases hm8:m<8
              · have hm8' : (m : Int) < 8 := by omega
                have Hx:=hide (nuF_at g m hm8)
                have Hp:=hide (fun w=>prime_c m hm8 w)
                have hc0:=hC.c0
                have hc1:=hC.c1
                have hpd:=pd_bd m
                have hgk:=hC.hi m (by omega) hm8
                have hgb:=hlo m hm8
                rw[← hgk] at hgb
                clear hgk
                go_wp2_with (first|(refine wl_box S rfl rfl rfl ?_;clear S;intro b W S)|(refine wl_new (ty:=58) S rfl rfl zeroFe ?_;clear S;intro b W S)|(refine g_load (ty:=58) rfl ?_;refine wl_load (ty:=58) S rfl rfl rfl (by repeat constructor) aggFe (by rfl) ?_)|(refine g_store (ty:=58) rfl ?_;refine wl_store (ty:=58) S rfl rfl rfl rfl (by repeat(first|exact foc_hd|apply foc_tl)) aggFe rfl (by rfl) (w4_one _ _ _ _) ?_;clear S;intro W S)|(refine g_load (ty:=24) rfl ?_;refine wl_loadE (ty:=24) S rfl rfl rfl (by repeat constructor) (by rfl) one64 ?_)|(refine g_store (ty:=24) rfl ?_;refine wl_storeE (ty:=24) S rfl rfl rfl rfl (by rfl) (by repeat(first|exact foc_hd|apply foc_tl)) one64 (by simp) rfl ?_;clear S;intro W S;simp only[Act.eval,zQ] at S))
                refine Calm.region0 S 9 (by kernel_rfl) (by kernel_rfl) (fun S=> ?_)
                iterate 2 (first|(refine wn_move rfl (by rfl) (Or.inl rfl) ?_;simp only[Act.put,Act.eval,zQ])|(apply wn_val rfl (by rfl);(intro w;go_simp;rfl);simp only[Act.put,Act.eval,zQ]))
                refine Calm.gn_load (ty:=24) rfl ?_
                refine wn_loadE (ty:=24) (b:=bA) S rfl (by rfl) rfl rfl (by repeat constructor) Hx.out one64 ?_
                simp only[Act.put,Act.eval,zQ]
                repeat(first|(refine wn_move rfl (by rfl) (Or.inl rfl) ?_;simp only[Act.put,Act.eval,zQ])|(apply wn_call (f:=99) rfl (by rfl) rfl;(intro w;go_simp;rfl);(intro w;exact Hp.out w);simp only[Act.put,Act.eval,zQ])|(apply wn_val rfl (by rfl);(intro w;go_simp;rfl);simp only[Act.put,Act.eval,zQ]))
                (refine wn_nil ?_;clear S;intro W S;simp only[Act.put,List.setIfInBounds_toArray,List.set_cons_zero,List.set_cons_succ,List.drop_succ_cons,List.drop_zero,List.drop_nil])
                go_wp2_with (first|(refine g_store (ty:=24) rfl ?_;refine wl_storeE (ty:=24) (b:=bA) (cs:=nuF (upd g m ((4294967296+g m - pd m - c)%4294967296))) S rfl rfl rfl rfl (nuF_set _ _ _) (by repeat(first|exact foc_hd|apply foc_tl)) one64 (by rw[nuF_size];omega) rfl ?_;clear S;intro W S))
                go_roundw
                case rel=>exact⟨m+1,_,_,by omega,by go_num,rfl,hC.step hm8 (hlo m hm8) hpd,S⟩
                case measure=>simp[intOf];omega
              · have hm' : m = 8 := by omega
                subst hm'
                have hfin:nuF g=nuC (val f 8%pr):=by
                  have h1:=val_bd g 8 hC.lo
                  have h2:=hC.eq
                  have h3:=hC.c0
                  have h4:=hC.c1
                  rw[val_pd] at h2
                  rw[b8] at h1 h2
                  rw[nuC_of g hC.lo,← hTm]
                  congr 1
                  unfold pr at*
                  omega
                have Hfin:=hide hfin
                clear hfin
                go_wp2_with (first|(refine g_load (ty:=70) rfl ?_;refine wl_load (ty:=70) S rfl rfl rfl (by repeat constructor) aggNu (by rw[nuF_size]) ?_)|(refine g_store (ty:=70) rfl ?_;refine wl_store (ty:=70) S rfl rfl rfl rfl (by repeat(first|exact foc_hd|apply foc_tl)) aggNu (by rw[nuF_size]) (by rw[nuF_size]) (nuF_one _) ?_;clear S;intro W S))
                refine Calm.ret_cell S (by rfl) (by rfl) (by repeat constructor) aggNu (by rw[nuF_size]) (by rfl) ?_
                exact⟨by rw[Hfin.out],S.below⟩
end Go.Proofs.YtdebkddhpogkgaaGreat
