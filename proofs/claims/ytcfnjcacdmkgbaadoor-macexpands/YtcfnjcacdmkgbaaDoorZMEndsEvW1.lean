import Derived.Test.YtcfnjcacdmkgbaaDoorZMEndsEvAll
import Derived.Test.YtcfnjcacdmkgbaaDoorZMEndsEdEAll
import Derived.Deep.AppendSrc
import Derived.Laws.AppendOwn
set_option linter.unusedSimpArgs false
set_option linter.unusedVariables false
/-! Append to a row of one's own, or to nothing: how much room the new row has is the world's choice. -/
namespace Go.Ev
open Go.RowKit Go.Calm Go.Proofs.YtcfnjcacdmkgbaaDoor
section
variable {P:Program} {E:En P} {fk:Nat}
structure ApT (P:Program) (t e:TypeId) (q:IntKind) (by':Nat):Prop where
  ht:P.underlying t=some (.slice e)
  hi:(P.info? e).map (fun i=>(i.zero,i.size,i.bytes))=some (some (.int q 0),1,by')
def iv (q:IntKind) (N:List Int):List Value:=N.map (Value.int q)
theorem iv_len (q:IntKind) (N:List Int):(iv q N).length=N.length:=by simp[iv]
theorem wA_list (q:IntKind) (n:Nat) (L:List Int) (h:L.length≤n):wA q n L=(iv q L ++ List.replicate (n - L.length) (Value.int q 0)).toArray:=by
  unfold wA iv
  congr 1
  apply List.ext_getElem?
  intro i
  by_cases hi:i<n
  · rw [List.getElem?_map, List.getElem?_range hi]
    by_cases hL:i<L.length
    · rw [List.getElem?_append_left (by simpa using hL)]
      simp[hL]
    · rw [List.getElem?_append_right (by simp; omega)]
      simp only[List.length_map,List.getElem?_replicate]
      rw[if_pos (by omega)]
      simp[List.getD_eq_getElem?_getD,List.getElem?_eq_none (Nat.not_lt.1 hL)]
  · rw[List.getElem?_eq_none (by simpa using Nat.not_lt.1 hi),List.getElem?_eq_none (by simp;omega)]
theorem wA_size (q:IntKind) (n:Nat) (L:List Int):(wA q n L).size=n:=by simp[wA]
def al (i M:Nat):Value→Value
  | .pointer (some ⟨k,o,none⟩)=>if k=i then .pointer (some ⟨M,o,none⟩) else .pointer (some ⟨k,o,none⟩)
  | .slice (some ⟨k,o,none⟩) l c=>if k=i then .slice (some ⟨M,o,none⟩) l c else .slice (some ⟨k,o,none⟩) l c
  |v=>v
abbrev J (j:Nat→Value) (a n:Nat):List Value:=(List.range n).map fun i=>j (a+i)
abbrev JU (n:Nat):List Value:=List.replicate n undef
theorem al_rn {β β' : Nat → Nat} {i M : Nat} (h1 : β' M = β i) (h2 : ∀ k, k ≠ i → k ≠ M → β' k = β k) {v : Value} (hv : pnum v < M) : rn β' (al i M v) = rn β v := by
  cases v with
  | pointer a =>
    cases a with
    |none=>rfl
    | some a =>
      obtain⟨k,o,s⟩:=a
      cases s with
      | none =>
        simp only[pnum] at hv
        simp only[al]
        split
        · rename_i e;simp only[rn,h1,e]
        · rename_i e;simp only[rn];rw[h2 k e (by omega)]
      |some s=>rfl
  | slice a l c =>
    cases a with
    |none=>rfl
    | some a =>
      obtain⟨k,o,s⟩:=a
      cases s with
      | none =>
        simp only[pnum] at hv
        simp only[al]
        split
        · rename_i e;simp only[rn,h1,e]
        · rename_i e;simp only[rn];rw[h2 k e (by omega)]
      |some s=>rfl
  |_=>rfl
theorem al_ok {i M n : Nat} (hM : big ≤ M) {v : Value} (h : okp n v = true) : okp n (al i M v) = true := by
  cases v with
  | pointer a =>
    cases a with
    |none=>simp[okp] at h
    | some a =>
      obtain⟨k,o,s⟩:=a
      cases s with
      | none =>
        simp only[al]
        split
        · simp only[okp,Bool.or_eq_true,decide_eq_true_eq];omega
        · exact h
      |some s=>simp[okp] at h
  | slice a l c =>
    cases a with
    |none=>rfl
    | some a =>
      obtain⟨k,o,s⟩:=a
      cases s with
      | none =>
        simp only[al]
        split
        · simp only[okp,Bool.or_eq_true,decide_eq_true_eq];omega
        · exact h
      |some s=>simp[okp] at h
  |_=>rfl
theorem app_cells {q:IntKind} {cap:Nat} {L N:List Int} (h:L.length+N.length≤cap):((wA q cap L).toList.take L.length ++ iv q N ++ (wA q cap L).toList.drop (L.length+(iv q N).length)).toArray=wA q cap (L ++ N):=by
  rw[wA_list q cap L (by omega),wA_list q cap (L ++ N) (by simpa using h)]
  simp only[iv_len]
  congr 1
  rw[List.take_append_of_le_length (by simp[iv]),List.take_of_length_le (by simp[iv]),List.drop_append,List.drop_eq_nil_of_le (by simp[iv])]
  simp only[iv,List.map_append,List.length_map,List.drop_replicate,List.nil_append,List.length_append,List.append_assoc]
  congr 3
  omega
theorem app_cells2 {q:IntKind} {cap':Nat} {L N:List Int} (h:L.length+N.length≤cap'):(iv q L ++ iv q N).toArray ++ Builtin.zeroCells (Value.int q 0).cells (cap' - (L.length+N.length))=wA q cap' (L ++ N):=by
  rw[wA_list q cap' (L ++ N) (by simpa using h)]
  apply Array.ext'
  simp[Builtin.zeroCells,Value.cells,iv,List.append_assoc]
  apply List.ext_getElem?
  intro j
  by_cases hj:j<cap' - (L.length+N.length)
  · simp[hj,Nat.mod_one]
  · simp[hj]
structure SrcOk (q:IntKind) (mem:List Mb) (u:Value) (N:List Int):Prop where
  h:(u= .slice none 0 0∧N= [])∨∃ j p c src st,u= .slice (some ⟨j,p,none⟩) N.length c∧mem[j]? =some (src,st)∧p+N.length≤src.size∧src.extract p (p+N.length)=(iv q N).toArray
theorem src_of {q:IntKind} {w0 W:World} {β:Nat→Nat} {mem:List Mb} (R:Rp fk w0 W β mem) {u:Value} {N:List Int} (h:SrcOk q mem u N) {tx ex:TypeId} (hx:P.underlying tx=some (.slice ex)):Src P 1 tx (rn β u) N.length (iv q N) W:=by
  rcases h.h with⟨rfl,rfl⟩|⟨j,p,c,src,st,rfl,hm,hs,he⟩
  · exact Src.ofNil W hx 0
  · refine Src.ofSlice W hx ⟨β j, p, none⟩ N.length c (iv q N) (by simp [iv]) (fun k v hv => ?_) (fun v hv => ?_)
    · have hk : k < N.length := by have := (List.getElem?_eq_some_iff.1 hv).1; simpa [iv] using this
      have ha:(⟨β j,p,none⟩:Addr).add k=⟨β j,p+k,none⟩:=by unfold Addr.add;split<;>simp_all
      rw[ha,cell_of_row W (β j) (p+k) src st.1 _ (R.has j _ hm)]
      have h2:(src.extract p (p+N.length))[k]? =some v:=by rw[he];simpa using hv
      rw[Array.getElem?_extract_of_lt (by omega)] at h2
      rw[← h2,Array.getElem?_eq_getElem (by omega)]
    · obtain ⟨n, _, rfl⟩ := List.mem_map.1 hv
      rfl
theorem app_own {t e tx ex ty : TypeId} {q : IntKind} {by' : Nat} (T : ApT P t e q by') (hx : P.underlying tx = some (.slice ex)) {w0 W : World} {β : Nat → Nat} {σ : Sy} {a : Act} (R : Rl fk w0 W β σ a) {i cap : Nat} {L N : List Int} (hgk : fk / big ≤ fk % big) (hk : fk % big ≤ i) (hm : σ.mem[i]? = some (wA q cap L, e, (0, 0))) (hL : L.length ≤ cap) {u : Value} (hu : SrcOk q σ.mem u N) (hb : 2 * (L.length + N.length) * by' ≤ 281474976710656) (h63 : L.length + N.length ≤ 9223372036854775807) :
    ∃ v W' β' cap' M,(Builtin.append_ #[t,tx] ty #[rn β (.slice (some ⟨i,0,none⟩) L.length cap),rn β u]).run P W= .ok v W'∧L.length+N.length≤cap'∧big≤M∧v=rn β' (.slice (some ⟨i,0,none⟩) (L.length+N.length) cap')∧Rl fk w0 W' β' ⟨σ.tm.map (al i M),σ.mem.set i (wA q cap' (L ++ N),e,(0,0)),σ.c,σ.ch⟩ a:=by
  obtain⟨M,hM1,hM2⟩:=pnum_bd σ.tm
  obtain⟨inf,hinf,hz⟩:=Option.map_eq_some_iff.1 T.hi
  simp only[Prod.mk.injEq] at hz
  obtain⟨hz0,hz1,hz2⟩:=hz
  have hS:=src_of R.m hu hx
  have hrow:=R.m.has i _ hm
  obtain⟨hil,_⟩:=List.getElem?_eq_some_iff.1 hm
  have hlt:=R.m.lt
  have iM:i≠M:=by omega
  by_cases hroom:L.length+N.length≤cap
  · -- there is room
    have hst:=run_storeCells_at (P:=P) (β i) L.length e (iv q N) 0 (wA q cap L) W hrow (by rw[wA_size,iv_len];omega) (fun v hv=>by obtain⟨n,_,rfl⟩:=List.mem_map.1 hv;rfl)
    simp only[Nat.add_zero,app_cells hroom] at hst
    obtain⟨β',hβ⟩:∃ β':Nat→Nat,β'=fun k=>if k=M then β i else β k:=⟨_,rfl⟩
    have b1:β' M=β i:=by simp[hβ]
    have b2:∀ k,k≠M→β' k=β k:=fun k h=>by simp[hβ,h]
    refine⟨.slice (some ⟨β i,0,none⟩) (L.length+N.length) cap,W.setRow (β i) (wA q cap (L ++ N)),β',cap,M,?_,hroom,hM1,by simp only[rn,b2 i iM],?_⟩
    · have e0 : rn β (.slice (some ⟨i, 0, none⟩) L.length cap) = .slice (some ⟨β i, 0, none⟩) L.length cap := rfl
      rw[e0]
      generalize rn β u=ur at hS
      have hs1:(sizeOf e).run P W= .ok 1 W:=by simp[sizeOf,typeInfo,hinf,hz1]
      have hA:(⟨β i,0,none⟩:Addr).add L.length=⟨β i,L.length,none⟩:=by unfold Addr.add;split<;>simp_all
      rcases hS.kind with⟨e',hk'⟩|hk'
      · simp[Builtin.append_,run_underlying T.ht,run_underlying hk',hs1,hS.len,hroom,hS.cells,hA,hst]
      · simp[Builtin.append_,run_underlying T.ht,run_underlying hk',hs1,hS.len,hroom,hS.cells,hA,hst]
    · have R1 := R.m.store hk hm (wA q cap (L ++ N))
      refine⟨⟨R1.below,fun k h1 h2=> ?_,fun k l h1 h2 h3 he=> ?_,fun k x h=> ?_,R1.lt,fun k h=>⟨(R1.gl k h).1,?_⟩⟩,?_,R.d,fun v hv=> ?_⟩
      · have h2' : k < σ.mem.length := by simpa using h2
        rw[b2 k (by omega)];exact R1.own k h1 h2
      · have h2' : k < σ.mem.length := by simpa using h2
        have h3':l<σ.mem.length:=by simpa using h3
        rw[b2 k (by omega),b2 l (by omega)] at he;exact R1.inj k l h1 h2 h3 he
      · have h2' : k < σ.mem.length := by have := (List.getElem?_eq_some_iff.1 h).1; simpa using this
        rw[b2 k (by omega)];exact R1.has k x h
      · have := (R1.gl k h).1
        have h2':k<σ.mem.length:=by simpa using this
        rw[b2 k (by omega)];exact(R1.gl k h).2
      · rw [R.t, List.map_map]
        congr 1
        exact List.map_congr_left fun v hv=>(al_rn b1 (fun k h1 h2=>b2 k h2) (hM2 v hv)).symm
      · obtain ⟨v', hv', rfl⟩ := List.mem_map.1 hv
        simp only[List.length_set]
        exact al_ok hM1 (R.ok v' hv')
  · -- a new row
    have hold:(Builtin.firstCells inf.size L.length (rn β (.slice (some ⟨i,0,none⟩) L.length cap))).run P W.drew= .ok (iv q L).toArray W.drew:=by
      rw[hz1]
      refine run_firstCells_some W.drew 1 L.length ⟨β i,0,none⟩ L.length cap (iv q L) (by simp[iv]) (fun k v hv=> ?_)
      have hk2:k<L.length:=by have:=(List.getElem?_eq_some_iff.1 hv).1;simpa[iv] using this
      have ha:(⟨β i,0,none⟩:Addr).add k=⟨β i,k,none⟩:=by unfold Addr.add;split<;>simp_all
      rw[ha]
      show W.cell? _=_
      rw[cell_of_row W (β i) k _ e _ hrow,wA_list q cap L hL]
      simp only[List.getElem?_toArray]
      rw[List.getElem?_append_left (by simpa[iv] using hk2)]
      exact hv
    have hg:cap<L.length+N.length:=by omega
    have hfit:Builtin.nextslicecap (L.length+N.length) cap*inf.bytes≤281474976710656:=by
      rw[hz2]
      exact Nat.le_trans (Nat.mul_le_mul_right _ (nextslicecap_le hg)) hb
    have hrun:=run_append_grow_src (P:=P) W t tx ty e inf (.int q 0) T.ht hinf hz0 (some ⟨β i,0,none⟩) L.length cap (iv q L) (by simpa only[rn] using hold) (rn β u) N.length (iv q N) (by rw[hz1];exact hS) hg (by omega) hfit
    obtain⟨cap',hcap⟩:∃ c,c=grownCap W (L.length+N.length) cap e:=⟨_,rfl⟩
    have hge:L.length+N.length≤cap':=by rw[hcap];exact grownCap_ge _ _ _ _
    rw[← hcap,app_cells2 hge] at hrun
    obtain⟨β',hβ⟩:∃ β':Nat→Nat,β'=fun k=>if k=M then β i else if k=i then W.heap.size else β k:=⟨_,rfl⟩
    have b1:β' M=β i:=by simp[hβ]
    have b2:∀ k,k≠i→k≠M→β' k=β k:=fun k h h'=>by simp[hβ,h,h']
    have b3:β' i=W.heap.size:=by simp[hβ,iM]
    have hfresh:∀ k,k<σ.mem.length→β k<W.heap.size:=fun k hk=>lt_of_heap (R.m.has k _ (List.getElem?_eq_getElem hk))
    refine⟨.slice (some ⟨W.heap.size,0,none⟩) (L.length+N.length) cap',_,β',cap',M,hrun,hge,hM1,by simp only[rn,b3],?_⟩
    refine⟨⟨?_,fun k h1 h2=> ?_,fun k l h1 h2 h3 he=> ?_,fun k x h=> ?_,by simpa using hlt,fun k h=> ?_⟩,?_,R.d,fun v hv=> ?_⟩
    · exact(R.m.below.drew).alloc R.m.below.size _
    · have h2' : k < σ.mem.length := by simpa using h2
      by_cases hki:k=i
      · rw[hki,b3];exact R.m.below.size
      · rw[b2 k hki (by omega)];exact R.m.own k h1 h2'
    · have h2' : k < σ.mem.length := by simpa using h2
      have h3':l<σ.mem.length:=by simpa using h3
      by_cases hki:k=i
      · by_cases hli : l = i
        · rw[hki,hli]
        · rw [hki, b3, b2 l hli (by omega)] at he
          have:=hfresh l h3'
          omega
      · by_cases hli : l = i
        · rw [hli, b3, b2 k hki (by omega)] at he
          have:=hfresh k h2'
          omega
        · rw [b2 k hki (by omega), b2 l hli (by omega)] at he
          exact R.m.inj k l h1 h2' h3' he
    · have h2' : k < σ.mem.length := by have := (List.getElem?_eq_some_iff.1 h).1; simpa using this
      by_cases hki:k=i
      · subst hki
        simp only at h
        rw[List.getElem?_set_self hil] at h
        simp only[Option.some.injEq] at h
        subst h
        rw[b3]
        exact heap_alloc_new W.drew _
      · simp only at h
        rw[List.getElem?_set_ne (fun e=>hki e.symm)] at h
        rw[b2 k hki (by omega),heap_alloc_old W.drew _ (hfresh k h2')]
        exact R.m.has k x h
    · have hgl := R.m.gl k h
      have hlt2:k<σ.mem.length:=hgl.1
      refine⟨by simpa using hgl.1,?_⟩
      by_cases hki:k=i
      · omega
      · rw[b2 k hki (by omega)];exact hgl.2
    · rw [R.t, List.map_map]
      congr 1
      exact List.map_congr_left fun v hv=>(al_rn b1 b2 (hM2 v hv)).symm
    · obtain ⟨v', hv', rfl⟩ := List.mem_map.1 hv
      simp only[List.length_set]
      exact al_ok hM1 (R.ok v' hv')
theorem app_nil {t e tx ex ty:TypeId} {q:IntKind} {by':Nat} (T:ApT P t e q by') (hx:P.underlying tx=some (.slice ex)) {w0 W:World} {β:Nat→Nat} {σ:Sy} {a:Act} (R:Rl fk w0 W β σ a) {N:List Int} {u:Value} (hl:σ.mem.length+1<big) (hu:SrcOk q σ.mem u N) (h0:0<N.length) (hb:2*N.length*by'≤281474976710656) (h63:N.length≤9223372036854775807) (d:Option Tmp):
    ∃ v W' β' cap',(Builtin.append_ #[t,tx] ty #[.slice none 0 0,rn β u]).run P W= .ok v W'∧N.length≤cap'∧Rl fk w0 W' β' ⟨putS σ.tm d (.slice (some ⟨σ.mem.length,0,none⟩) N.length cap'),σ.mem ++ [(wA q cap' N,e,(0,0))],σ.c,σ.ch⟩ (a.put d v):=by
  obtain⟨inf,hinf,hz⟩:=Option.map_eq_some_iff.1 T.hi
  simp only[Prod.mk.injEq] at hz
  obtain⟨hz0,hz1,hz2⟩:=hz
  have hS:=src_of R.m hu hx
  have hfit:Builtin.nextslicecap (0+N.length) 0*inf.bytes≤281474976710656:=by
    rw[hz2]
    refine Nat.le_trans (Nat.mul_le_mul_right _ (nextslicecap_le (by omega))) ?_
    simpa using hb
  have hrun:=run_append_grow_src (P:=P) W t tx ty e inf (.int q 0) T.ht hinf hz0 none 0 0 [] (by rw[hz1];exact run_firstCells_none W.drew 1 0 0 0) (rn β u) N.length (iv q N) (by rw[hz1];exact hS) (by omega) (by omega) hfit
  obtain⟨cap',hcap⟩:∃ c,c=grownCap W (0+N.length) 0 e:=⟨_,rfl⟩
  have hge:0+N.length≤cap':=by rw[hcap];exact grownCap_ge _ _ _ _
  have hcells:=app_cells2 (q:=q) (L:= []) (N:=N) (cap':=cap') (by simpa using hge)
  simp only[iv,List.map_nil,List.length_nil,List.nil_append] at hcells
  rw[← hcap] at hrun
  simp only[iv,List.nil_append] at hrun
  rw[hcells] at hrun
  simp only[Nat.zero_add] at hrun hge
  refine⟨.slice (some ⟨W.heap.size,0,none⟩) N.length cap',_,upd β σ.mem.length W.heap.size,cap',hrun,hge,?_⟩
  exact Rl.newV R d N.length cap' (R.m.drew.new hl (wA q cap' N) e) σ.c
def RunsL (P:Program) (ops:Array Oper) (l:List Oper) (σ:Sy) (K:Sy→Prop) (fk:Nat:=0):Prop:=∀(Q:Exit→Act→World→Prop) (rest:List Oper) (w0 W:World) (β:Nat→Nat) (a:Act),Rl fk w0 W β σ a→(∀ σ' W' β' a',K σ'→Rl fk w0 W' β' σ' a'→wpList P ops Q rest a' W')→wpList P ops Q (l ++ rest) a W
theorem evLr_ok {ops : Array Oper} : ∀ (l : List Oper) (σ σ' : Sy), evL E ops l σ = some σ' → σ'.c → σ.c ∧ ∀ {Q : Exit → Act → World → Prop} {rest : List Oper} {w0 W : World} {β : Nat → Nat} {a : Act}, Rl E.fk w0 W β σ a → (∀ W' β' a', Rl E.fk w0 W' β' σ' a' → wpList P ops Q rest a' W') → wpList P ops Q (l ++ rest) a W
  | [], σ, σ', h, hc => by
    simp only[evL,Option.some.injEq] at h
    subst h
    exact⟨hc,fun R hK=>hK _ _ _ R⟩
  | o :: r, σ, σ', h, hc => by
    unfold evL at h
    split at h
    · rename_i hw
      split at h
      · rename_i σ1 hs
        obtain⟨h1,h2⟩:=evLr_ok r σ1 σ' h hc
        refine⟨(stM_wp hs h1).1,fun {Q rest w0 W β a} R hK=> ?_⟩
        exact(stM_ok (ops:=ops) (rest:=r ++ rest) hs h1).2 R (by rw[yielded_eq R];exact hw) (fun W' β' a' R'=>h2 R' hK)
      · cases h
    · rename_i hw
      obtain⟨h1,h2⟩:=evLr_ok r (offS σ o) σ' h hc
      exact⟨h1,fun R hK=>wl_off (by rw[yielded_eq R];simpa using hw) (h2 (R.off o) hK)⟩
theorem runsL_ev {ops:Array Oper} {l:List Oper} {tm:List Value} {mem:List Mb} (ch:List (Option Value)) {σ':Sy} (h:evL E ops l ⟨tm,mem,True,ch⟩=some σ') (hc:σ'.c) {c0:Prop} {ch0:List (Option Value)}:RunsL P ops l ⟨tm,mem,c0,ch0⟩ (fun s=>s=σ') E.fk:=
  fun Q rest w0 W β a R hK=>(evLr_ok l _ _ h hc).2 (R.re True ch) (fun W' β' a' R'=>hK _ W' β' a' rfl R')
theorem RunsL.mono {ops:Array Oper} {l:List Oper} {σ:Sy} {K K':Sy→Prop} (h:RunsL P ops l σ K fk) (hK:∀ s,K s→K' s):RunsL P ops l σ K' fk:=fun Q rest w0 W β a R h2=>h Q rest w0 W β a R (fun s W' β' a' k R'=>h2 s W' β' a' (hK s k) R')
theorem runsL_cat {ops:Array Oper} {l1 l2:List Oper} {σ:Sy} {K1 K:Sy→Prop} (h1:RunsL P ops l1 σ K1 fk) (h2:∀ s,K1 s→RunsL P ops l2 s K fk):RunsL P ops (l1 ++ l2) σ K fk:=fun Q rest w0 W β a R hK=>by
  rw[List.append_assoc]
  exact h1 Q (l2 ++ rest) w0 W β a R (fun s W' β' a' k R'=>h2 s k Q rest w0 W' β' a' R' hK)
def isReg:Code→Bool
  | .region _ _ false=>true
  |_=>false
def oT:Code→Array Oper
  | .region _ o _=>o
  |_=> #[]
theorem runs_region {c:Code} (hr:isReg c=true) {σ:Sy} {K:Sy→Prop} (h:RunsL P (oT c) (oT c).toList σ K fk):Runs P c σ (fun e s=>e= .normal∧K s) fk:=fun Q w0 W β a R hK=>by
  unfold isReg at hr
  split at hr
  · rename_i i o
    refine wp_region_list ?_
    have:=h Q [] w0 W β a R (fun s W' β' a' k R'=>hK .normal s W' β' a' ⟨rfl,k⟩ R')
    rw[List.append_nil] at this
    exact this
  · cases hr
def isApp : Option Oper → Option (TypeId × TypeId × Operand × Operand × Option Tmp)
  | some ⟨d, .call ⟨.builtin .append, xs, ts⟩, _, _, _, none⟩ => (match xs.toList, ts.toList with
    | [x,y],[t,tx]=>if opk x && opk y then some (t,tx,x,y,d) else none
    |_,_=>none)
  |_=>none
theorem app_wp {ops : Array Oper} {o : Oper} {t tx : TypeId} {x y : Operand} {d : Option Tmp} (h : isApp (some o) = some (t, tx, x, y, d)) {Q : Exit → Act → World → Prop} {rest : List Oper} {a : Act} {W W' : World} {v : Value} (hr : ∀ ty, (Builtin.append_ #[t, tx] ty #[a.eval x, a.eval y]).run P W = .ok v W') (hK : wpList P ops Q rest (a.put d v) W') : wpList P ops Q ([o] ++ rest) a W := by
  obtain⟨dst,op,ty,pos,after,guard⟩:=o
  unfold isApp at h
  split at h
  · rename_i d' xs ts ty' pos' after' e
    simp only[Option.some.injEq,Oper.mk.injEq] at e
    obtain⟨rfl,rfl,rfl,rfl,rfl,rfl⟩:=e
    split at h
    · rename_i x' y' t' tx' e1 e2
      have e1:xs= #[x',y']:=Array.ext' (by rw[e1])
      have e2:ts= #[t',tx']:=Array.ext' (by rw[e2])
      subst e1 e2
      split at h
      · simp only [Option.some.injEq, Prod.mk.injEq] at h
        obtain⟨rfl,rfl,rfl,rfl,rfl⟩:=h
        refine wpList_plain rfl fun K hK'=> ?_
        unfold Oper.wp
        simp[execOp,resolve,invoke,builtin,hr,Result.andThen]
        exact hK' _ _ hK
      · cases h
    · cases h
  · cases h
theorem isApp_opk {o : Option Oper} {r : TypeId × TypeId × Operand × Operand × Option Tmp} (h : isApp o = some r) : opk r.2.2.1 = true ∧ opk r.2.2.2.1 = true := by
  unfold isApp at h
  split at h
  · split at h
    · split at h
      · rename_i hk
        simp only[Option.some.injEq] at h
        subst h
        simpa using hk
      · cases h
    · cases h
  · cases h
theorem runsL_app {ops:Array Oper} {o:Oper} {t tx e ex:TypeId} {x y:Operand} {d:Option Tmp} (h:isApp (some o)=some (t,tx,x,y,d)) {q:IntKind} {by':Nat} (T:ApT P t e q by') (hx:P.underlying tx=some (.slice ex)) {tm:List Value} {mem:List Mb} {c:Prop} {ch:List (Option Value)} {i len cap:Nat} {L N:List Int} (hgk:fk / big≤fk%big) (hk:fk%big≤i) (hv:opn tm x= .slice (some ⟨i,0,none⟩) len cap) (hlen:len=L.length) (hm:mem[i]? =some (wA q cap L,e,(0,0))) (hL:L.length≤cap) (hu:SrcOk q mem (opn tm y) N) (hb:2*(L.length+N.length)*by'≤281474976710656) (h63:L.length+N.length≤9223372036854775807):
    RunsL P ops [o] ⟨tm,mem,c,ch⟩ (fun s=>∃ cap' M,L.length+N.length≤cap'∧s=⟨putS (tm.map (al i M)) d (.slice (some ⟨i,0,none⟩) (L.length+N.length) cap'),mem.set i (wA q cap' (L ++ N),e,(0,0)),c,ch⟩) fk:=fun Q rest w0 W β a R hK=>by
  subst hlen
  obtain⟨hkx,hky⟩:=isApp_opk h
  simp only at hkx hky
  have key:∀ ty,_:=fun ty=>app_own (ty:=ty) T hx R hgk hk hm hL hu hb h63
  obtain⟨v,W',β',cap',M,hr,hge,hM,hv',R'⟩:=key 0
  have hil:i<mem.length:=(List.getElem?_eq_some_iff.1 hm).1
  refine app_wp h (v:=v) (W':=W') (fun ty=> ?_) (hK _ W' β' _ ⟨cap',M,hge,rfl⟩ ?_)
  · rw [R.ev hkx, R.ev hky]
    simp only[hv]
    exact hr
  · have := R'.put d (v := .slice (some ⟨i, 0, none⟩) (L.length + N.length) cap') (by simp only [okp, List.length_set]; simp [hil]) c ch
    rw[← hv'] at this
    exact this
theorem runsL_appN {ops:Array Oper} {o:Oper} {t tx e ex:TypeId} {x y:Operand} {d:Option Tmp} (h:isApp (some o)=some (t,tx,x,y,d)) {q:IntKind} {by':Nat} (T:ApT P t e q by') (hx:P.underlying tx=some (.slice ex)) {tm:List Value} {mem:List Mb} {c:Prop} {ch:List (Option Value)} {N:List Int} (hv:opn tm x= .slice none 0 0) (hl:mem.length+1<big) (hu:SrcOk q mem (opn tm y) N) (h0:0<N.length) (hb:2*N.length*by'≤281474976710656) (h63:N.length≤9223372036854775807):
    RunsL P ops [o] ⟨tm,mem,c,ch⟩ (fun s=>∃ cap',N.length≤cap'∧s=⟨putS tm d (.slice (some ⟨mem.length,0,none⟩) N.length cap'),mem ++ [(wA q cap' N,e,(0,0))],c,ch⟩) fk:=fun Q rest w0 W β a R hK=>by
  obtain⟨hkx,hky⟩:=isApp_opk h
  simp only at hkx hky
  obtain⟨v,W',β',cap',hr,hge,R'⟩:=app_nil (ty:=0) T hx R hl hu h0 hb h63 d
  refine app_wp h (v:=v) (W':=W') (fun ty=> ?_) (hK _ W' β' _ ⟨cap',hge,rfl⟩ R')
  rw[R.ev hkx,R.ev hky]
  simp only[hv]
  exact hr
theorem runsL_app0 {ops:Array Oper} {o:Oper} {t tx e ex:TypeId} {x y:Operand} {d:Option Tmp} (h:isApp (some o)=some (t,tx,x,y,d)) {q:IntKind} {by':Nat} (T:ApT P t e q by') (hx:P.underlying tx=some (.slice ex)) {tm:List Value} {mem:List Mb} {c:Prop} {ch:List (Option Value)} (hv:opn tm x= .slice none 0 0) (hu:SrcOk q mem (opn tm y) []):
    RunsL P ops [o] ⟨tm,mem,c,ch⟩ (fun s=>s=⟨putS tm d (.slice none 0 0),mem,c,ch⟩) fk:=fun Q rest w0 W β a R hK=>by
  obtain⟨hkx,hky⟩:=isApp_opk h
  simp only at hkx hky
  have hS:=src_of R.m hu hx
  obtain⟨inf,hinf,hz⟩:=Option.map_eq_some_iff.1 T.hi
  simp only[Prod.mk.injEq] at hz
  obtain⟨hz0,hz1,hz2⟩:=hz
  have hs1:(sizeOf e).run P W= .ok 1 W:=by simp[sizeOf,typeInfo,hinf,hz1]
  refine app_wp h (v:= .slice none 0 0) (W':=W) (fun ty=> ?_) (hK _ W β _ rfl ?_)
  · rw [R.ev hkx, R.ev hky]
    generalize rn β (opn tm y)=ur at hS
    have e0:rn β (.slice none 0 0)= .slice none 0 0:=rfl
    rw[hv,e0]
    have hcell:=hS.cells
    simp only[List.length_nil] at hcell
    simp[Builtin.append_,run_underlying T.ht,run_underlying hx,hs1,hS.len,hcell]
  · exact R.put d (v:= .slice none 0 0) rfl c ch
theorem take_split {l:List Oper} {k:Nat} {o:Oper} (h:l[k]? =some o):l=l.take k ++ ([o] ++ l.drop (k+1)):=by
  obtain⟨hk,he⟩:=List.getElem?_eq_some_iff.1 h
  rw[← he]
  simp
theorem runsL_appS {ops:Array Oper} {Ls:List Oper} (k:Nat) {tm tm1:List Value} {mem mem1:List Mb} {c1:Prop} {ch1 ch':List (Option Value)} (h1:evL E ops (Ls.take k) ⟨tm,mem,True,ch1⟩=some ⟨tm1,mem1,c1,ch'⟩) (hc1:c1) {t tx e ex:TypeId} {x y:Operand} {d:Option Tmp} (ha:isApp (Ls[k]?)=some (t,tx,x,y,d)) {q:IntKind} {by':Nat} (T:ApT P t e q by') (hx:P.underlying tx=some (.slice ex)) {i len cap:Nat} {L N:List Int} (hgk:E.fk / big≤E.fk%big) (hk:E.fk%big≤i) (hv:opn tm1 x= .slice (some ⟨i,0,none⟩) len cap) (hlen:len=L.length) (hm:mem1[i]? =some (wA q cap L,e,(0,0))) (hL:L.length≤cap) (hu:SrcOk q mem1 (opn tm1 y) N) (hb:2*(L.length+N.length)*by'≤281474976710656) (h63:L.length+N.length≤9223372036854775807) {K:Sy→Prop} (h2:∀ n cap' M c ch,n=L.length+N.length→n≤cap'→RunsL P ops (Ls.drop (k+1)) ⟨putS (tm1.map (al i M)) d (.slice (some ⟨i,0,none⟩) n cap'),mem1.set i (wA q cap' (L ++ N),e,(0,0)),c,ch⟩ K E.fk) {c0:Prop} {ch0:List (Option Value)}:RunsL P ops Ls ⟨tm,mem,c0,ch0⟩ K E.fk:=by
  obtain⟨o,ho⟩:∃ o,Ls[k]? =some o:=by
    cases h:Ls[k]? with
    |none=>rw[h] at ha;simp[isApp] at ha
    |some o=>exact⟨o,rfl⟩
  rw[ho] at ha
  have e1:=take_split ho
  have main:RunsL P ops (Ls.take k ++ ([o] ++ Ls.drop (k+1))) ⟨tm,mem,c0,ch0⟩ K E.fk:=by
    refine runsL_cat (runsL_ev ch1 h1 hc1) (fun s hs=> ?_)
    subst hs
    refine runsL_cat (runsL_app ha T hx hgk hk hv hlen hm hL hu hb h63) ?_
    rintro s ⟨cap',M,hge,rfl⟩
    exact h2 _ cap' M _ _ rfl hge
  rw[← e1] at main
  exact main
def MakesA (P:Program) (f:FuncId) (mem:List Mb) (args:List Value) (q:IntKind) (n:Nat) (L:List Int) (e:TypeId) (ng:Nat:=0):Prop:=∀ w β,Has w β mem→(∀ i,i<ng→β i=i)→Calls P f (args.map (rn β)).toArray w (fun r w'=>∃ b cap,L.length≤cap∧r= .returned (.slice (some ⟨b,0,none⟩) n cap)∧w.heap.size≤b∧w'.heap[b]? =some (.cells (wA q cap L) e (0,0))∧Below w.heap.size w w')
theorem makesA_runs {f:FuncId} {fn:Func} (hf:P.funcs[f]? =some fn) {c:Code} (hb:fn.body=some c) {mem:List Mb} (hk:mem.length=fk%big∧fk / big≤fk%big) {args:List Value} (hn:args.all (okp (fk%big))=true) {q:IntKind} {n:Nat} {L:List Int} {t:TypeId} {r:Nat} (hres:fn.results.toList= [.tmp r]) {K:Exit→Sy→Prop} (h:Runs P c ⟨args ++ List.replicate (fn.ntmps - args.length) undef,mem,True,[]⟩ K fk) (hr:∀ e s,K e s→e= .ret∧∃ i cap,fk%big≤i∧L.length≤cap∧s.tm.getD r undef= .slice (some ⟨i,0,none⟩) n cap∧s.mem[i]? =some (wA q cap L,t,(0,0))):MakesA P f mem args q n L t (fk / big):=fun w β hw hg=>by
  refine calls_of_wp hf hb (h _ w w β _ (start hk.1 (by rw[hk.1];exact List.all_eq_true.1 hn) hw (fun i hi=>⟨by rw[hk.1];exact Nat.lt_of_lt_of_le hi hk.2,hg i hi⟩) (by simp) rfl) (fun e s W' β' a' q R'=> ?_))
  obtain⟨rfl,i,cap,hi,hcap,hs,hm⟩:=hr e s q
  have hx:a'.tmps.getD r undef=_:=R'.ev (x:= .tmp r) rfl
  simp only[opn,hs,rn] at hx
  exact⟨R'.d,one [.slice (some ⟨β' i,0,none⟩) n cap],results_eq (by rw[hres];simp[-Array.getD_eq_getD_getElem?,resOf,hx]),β' i,cap,hcap,rfl,R'.m.own i hi (List.getElem?_eq_some_iff.1 hm).1,R'.m.has i _ hm,R'.m.below⟩
def isCl:Option Oper→Option (FuncId×List Operand×Option Tmp)
  |some ⟨d,.call ⟨.value (.func f),xs,_⟩,_,_,_,none⟩=>if xs.toList.all opk then some (f,xs.toList,d) else none
  |_=>none
theorem runsL_call {ops : Array Oper} {o : Oper} {f : FuncId} {xs : List Operand} {d : Option Tmp} (h : isCl (some o) = some (f, xs, d)) (hf : ∀ args (w : World), (callFunc f args).run P w = .ok (.enter f args) w) {tm : List Value} {mem : List Mb} {c : Prop} {ch : List (Option Value)} {q : IntKind} {n : Nat} {L : List Int} {e : TypeId} (hM : MakesA P f mem (xs.map (opn tm)) q n L e (fk / big)) (hl : mem.length + 1 < big) :
    RunsL P ops [o] ⟨tm,mem,c,ch⟩ (fun s=>∃ cap,L.length≤cap∧s=⟨putS tm d (.slice (some ⟨mem.length,0,none⟩) n cap),mem ++ [(wA q cap L,e,(0,0))],c,ch⟩) fk:=fun Q rest w0 W β a R hK=>by
  obtain⟨dst,op,ty,pos,after,guard⟩:=o
  unfold isCl at h
  split at h
  · rename_i d' f' xs' ts ty' pos' after' e'
    simp only[Option.some.injEq,Oper.mk.injEq] at e'
    obtain⟨rfl,rfl,rfl,rfl,rfl,rfl⟩:=e'
    split at h
    · rename_i hk
      simp only[Option.some.injEq,Prod.mk.injEq] at h
      obtain⟨rfl,rfl,rfl⟩:=h
      have e1:xs'.map a.eval=((xs'.toList.map (opn tm)).map (rn β)).toArray:=by
        rw[List.map_map,← List.map_toArray]
        apply Array.map_congr_left
        intro x hx
        exact R.ev (List.all_eq_true.1 hk x (by simpa using hx))
      have hr:(execOp a.eval ⟨dst,.call ⟨.value (.func f'),xs',ts⟩,ty,pos,after,none⟩).run P W= .ok (.enter f' (xs'.map a.eval)) W:=by
        have h2:=hf
        go_simp
      refine wpList_plain rfl fun K hK'=> ?_
      unfold Oper.wp
      rw[hr,e1,Oper.upon_enter]
      refine(hM W β R.m.has R.v.gl).mono ?_
      rintro r W' ⟨b,cap,hcap,rfl,hb,hcs,hB⟩
      refine hK' _ _ (hK _ W' _ _ ⟨cap,hcap,rfl⟩ (R.newV dst n cap ((R.m.call hB).more hl (Nat.le_trans R.m.below.size hb) (fun i hi=> ?_) hcs) _))
      have:=lt_of_heap (R.m.has i _ (List.getElem?_eq_getElem hi))
      omega
    · cases h
  · cases h
def ov (i n M:Nat) (v:Value):Value:=match v with
  | .pointer (some ⟨k,o,none⟩)=>if k=i then .pointer (some ⟨M,o,none⟩) else if k=n then .pointer (some ⟨i,o,none⟩) else v
  | .slice (some ⟨k,o,none⟩) l c=>if k=i then .slice (some ⟨M,o,none⟩) l c else if k=n then .slice (some ⟨i,o,none⟩) l c else v
  |_=>v
theorem ov_rn {β β' : Nat → Nat} {i n M : Nat} (h1 : β' M = β i) (h3 : β' i = β n) (h2 : ∀ k, k ≠ i → k ≠ n → k ≠ M → β' k = β k) {v : Value} (hv : pnum v < M) : rn β' (ov i n M v) = rn β v := by
  cases v with
  | pointer a =>
    cases a with
    |none=>rfl
    | some a =>
      obtain⟨k,o,s⟩:=a
      cases s with
      | none =>
        simp only[pnum] at hv
        simp only[ov]
        split
        · rename_i e;simp only[rn,h1,e]
        · split
          · rename_i e;simp only[rn,h3,e]
          · rename_i e e2;simp only[rn];rw[h2 k e e2 (by omega)]
      |some s=>rfl
  | slice a l c =>
    cases a with
    |none=>rfl
    | some a =>
      obtain⟨k,o,s⟩:=a
      cases s with
      | none =>
        simp only[pnum] at hv
        simp only[ov]
        split
        · rename_i e;simp only[rn,h1,e]
        · split
          · rename_i e;simp only[rn,h3,e]
          · rename_i e e2;simp only[rn];rw[h2 k e e2 (by omega)]
      |some s=>rfl
  |_=>rfl
theorem ov_ok {i n M : Nat} (hM : big ≤ M) (hi : i < n) {v : Value} (h : okp (n + 1) v = true) : okp n (ov i n M v) = true := by
  cases v with
  | pointer a =>
    cases a with
    |none=>simp[okp] at h
    | some a =>
      obtain⟨k,o,s⟩:=a
      cases s with
      | none =>
        simp only[okp,Bool.or_eq_true,decide_eq_true_eq] at h
        simp only[ov]
        split
        · simp only[okp,Bool.or_eq_true,decide_eq_true_eq];omega
        · split
          · simp only[okp,Bool.or_eq_true,decide_eq_true_eq];omega
          · simp only[okp,Bool.or_eq_true,decide_eq_true_eq];omega
      |some s=>simp[okp] at h
  | slice a l c =>
    cases a with
    |none=>rfl
    | some a =>
      obtain⟨k,o,s⟩:=a
      cases s with
      | none =>
        simp only[okp,Bool.or_eq_true,decide_eq_true_eq] at h
        simp only[ov]
        split
        · simp only[okp,Bool.or_eq_true,decide_eq_true_eq];omega
        · split
          · simp only[okp,Bool.or_eq_true,decide_eq_true_eq];omega
          · simp only[okp,Bool.or_eq_true,decide_eq_true_eq];omega
      |some s=>simp[okp] at h
  |_=>rfl
theorem Rl.over {w0 W : World} {β : Nat → Nat} {tm : List Value} {mem : List Mb} {x : Mb} {c : Prop} {ch : List (Option Value)} {a : Act} (R : Rl fk w0 W β ⟨tm, mem ++ [x], c, ch⟩ a) {i : Nat} (hgk : fk / big ≤ fk % big) (hk : fk % big ≤ i) (hi : i < mem.length) : ∃ M β', Rl fk w0 W β' ⟨tm.map (ov i mem.length M), mem.set i x, c, ch⟩ a := by
  obtain⟨M,h1,h2⟩:=pnum_bd tm
  have hlt:mem.length+1<big:=by have:=R.m.lt;simpa using this
  obtain⟨β',hβ⟩:∃ β':Nat→Nat,β'=fun k=>if k=M then β i else if k=i then β mem.length else β k:=⟨_,rfl⟩
  have b1:β' M=β i:=by simp[hβ]
  have iM:i≠M:=by omega
  have b3:β' i=β mem.length:=by simp[hβ,iM]
  have b2:∀ k,k≠i→k≠M→β' k=β k:=fun k h h'=>by simp[hβ,h,h']
  have old:∀ k,k<mem.length→(mem ++ [x])[k]? =mem[k]? :=fun k hk=>List.getElem?_append_left hk
  have lst:(mem ++ [x])[mem.length]? =some x:=by simp
  have own:=R.m.own
  have inj:=R.m.inj
  have has:=R.m.has
  simp only[List.length_append,List.length_singleton] at own inj
  refine⟨M,β',⟨R.m.below,fun k hk' hkl=> ?_,fun k l hk' hkl hll e=> ?_,fun k y hy=> ?_,by simp only[List.length_set];omega,fun k h=>⟨by have:=hgk;simp only[List.length_set];omega,?_⟩⟩,?_,R.d,fun v hv=> ?_⟩
  · simp only [List.length_set] at hkl
    by_cases e:k=i
    · rw[e,b3];exact own mem.length (by omega) (by omega)
    · rw[b2 k e (by omega)];exact own k hk' (by omega)
  · simp only [List.length_set] at hkl hll
    by_cases e1:k=i
    · by_cases e2 : l = i
      · rw[e1,e2]
      · rw [e1, b3, b2 l e2 (by omega)] at e
        have:=inj mem.length l (by omega) (by omega) (by omega) e
        omega
    · by_cases e2 : l = i
      · rw [e2, b3, b2 k e1 (by omega)] at e
        have:=inj k mem.length hk' (by omega) (by omega) e
        omega
      · rw [b2 k e1 (by omega), b2 l e2 (by omega)] at e
        exact inj k l hk' (by omega) (by omega) e
  · have hkl : k < mem.length := by have := (List.getElem?_eq_some_iff.1 hy).1; simpa using this
    by_cases e:k=i
    · subst e
      simp only at hy
      rw[List.getElem?_set_self hi] at hy
      simp only[Option.some.injEq] at hy
      subst hy
      rw[b3]
      exact has _ _ lst
    · simp only at hy
      rw[List.getElem?_set_ne (fun q=>e q.symm)] at hy
      rw[b2 k e (by omega)]
      exact has k y (by simp only;rw[old k hkl];exact hy)
  · rw[b2 k (by omega) (by omega)];exact(R.m.gl k h).2
  · rw [R.t, List.map_map]
    congr 1
    exact List.map_congr_left fun v hv=>(ov_rn b1 b3 (fun k p1 _ p3=>b2 k p1 p3) (h2 v hv)).symm
  · obtain ⟨u, hu, rfl⟩ := List.mem_map.1 hv
    simp only[List.length_set]
    have:=R.ok u hu
    simp only[List.length_append,List.length_singleton] at this
    exact ov_ok h1 hi this
theorem Runs.over {c:Code} {σ:Sy} {K1 K:Exit→Sy→Prop} (h:Runs P c σ K1 fk) (hgk:fk / big≤fk%big) (hK:∀ e s,K1 e s→∃ mem x i,s.mem=mem ++ [x]∧fk%big≤i∧i<mem.length∧∀ M,K e ⟨s.tm.map (ov i mem.length M),mem.set i x,s.c,s.ch⟩):Runs P c σ K fk:=fun Q w0 W β a R h2=>
  h Q w0 W β a R (fun e s W' β' a' k R' => by
    obtain⟨mem,x,i,hm,hi,hl,hk⟩:=hK e s k
    obtain⟨tm,m,q,ch⟩:=s
    simp only at hm
    subst hm
    obtain⟨M,β2,R2⟩:=R'.over hgk hi hl
    exact h2 e _ W' β2 a' (hk M) R2)
end
end Go.Ev

set_option linter.unusedSimpArgs false
set_option linter.unusedVariables false
/-! Append to a row of one's own where there is room: it stays where it is. -/
namespace Go.Ev
open Go.RowKit Go.Calm Go.Proofs.YtcfnjcacdmkgbaaDoor
section
variable {P:Program} {E:En P} {fk:Nat}
theorem app_room {t e tx ex ty:TypeId} {q:IntKind} {by':Nat} (T:ApT P t e q by') (hx:P.underlying tx=some (.slice ex)) {w0 W:World} {β:Nat→Nat} {σ:Sy} {a:Act} (R:Rl fk w0 W β σ a) {i cap:Nat} {L N:List Int} (hgk:fk / big≤fk%big) (hk:fk%big≤i) (hm:σ.mem[i]? =some (wA q cap L,e,(0,0))) (hroom:L.length+N.length≤cap) {u:Value} (hu:SrcOk q σ.mem u N):
    ∃ v W',(Builtin.append_ #[t,tx] ty #[rn β (.slice (some ⟨i,0,none⟩) L.length cap),rn β u]).run P W= .ok v W'∧v=rn β (.slice (some ⟨i,0,none⟩) (L.length+N.length) cap)∧Rl fk w0 W' β ⟨σ.tm,σ.mem.set i (wA q cap (L ++ N),e,(0,0)),σ.c,σ.ch⟩ a:=by
  obtain⟨inf,hinf,hz⟩:=Option.map_eq_some_iff.1 T.hi
  simp only[Prod.mk.injEq] at hz
  obtain⟨hz0,hz1,hz2⟩:=hz
  have hS:=src_of R.m hu hx
  have hrow:=R.m.has i _ hm
  have hst:=run_storeCells_at (P:=P) (β i) L.length e (iv q N) 0 (wA q cap L) W hrow (by rw[wA_size,iv_len];omega) (fun v hv=>by obtain⟨n,_,rfl⟩:=List.mem_map.1 hv;rfl)
  simp only[Nat.add_zero,app_cells hroom] at hst
  refine⟨.slice (some ⟨β i,0,none⟩) (L.length+N.length) cap,W.setRow (β i) (wA q cap (L ++ N)),?_,rfl,⟨R.m.store hk hm (wA q cap (L ++ N)),R.t,R.d,fun v hv=> ?_⟩⟩
  · have e0 : rn β (.slice (some ⟨i, 0, none⟩) L.length cap) = .slice (some ⟨β i, 0, none⟩) L.length cap := rfl
    rw[e0]
    generalize rn β u=ur at hS
    have hs1:(sizeOf e).run P W= .ok 1 W:=by simp[sizeOf,typeInfo,hinf,hz1]
    have hA:(⟨β i,0,none⟩:Addr).add L.length=⟨β i,L.length,none⟩:=by unfold Addr.add;split<;>simp_all
    rcases hS.kind with⟨e',hk'⟩|hk'
    · simp[Builtin.append_,run_underlying T.ht,run_underlying hk',hs1,hS.len,hroom,hS.cells,hA,hst]
    · simp[Builtin.append_,run_underlying T.ht,run_underlying hk',hs1,hS.len,hroom,hS.cells,hA,hst]
  · simp only [List.length_set]
    exact R.ok v hv
theorem runsL_appR {ops:Array Oper} {o:Oper} {t tx e ex:TypeId} {x y:Operand} {d:Option Tmp} (h:isApp (some o)=some (t,tx,x,y,d)) {q:IntKind} {by':Nat} (T:ApT P t e q by') (hx:P.underlying tx=some (.slice ex)) {tm:List Value} {mem:List Mb} {c:Prop} {ch:List (Option Value)} {i len cap:Nat} {L N:List Int} (hgk:fk / big≤fk%big) (hk:fk%big≤i) (hv:opn tm x= .slice (some ⟨i,0,none⟩) len cap) (hlen:len=L.length) (hm:mem[i]? =some (wA q cap L,e,(0,0))) (hroom:L.length+N.length≤cap) (hu:SrcOk q mem (opn tm y) N):
    RunsL P ops [o] ⟨tm,mem,c,ch⟩ (fun s=>s=⟨putS tm d (.slice (some ⟨i,0,none⟩) (L.length+N.length) cap),mem.set i (wA q cap (L ++ N),e,(0,0)),c,ch⟩) fk:=fun Q rest w0 W β a R hK=>by
  subst hlen
  obtain⟨hkx,hky⟩:=isApp_opk h
  simp only at hkx hky
  have key:∀ ty,_:=fun ty=>app_room (ty:=ty) T hx R hgk hk hm hroom hu
  obtain⟨v,W',hr,hv',R'⟩:=key 0
  have hil:i<mem.length:=(List.getElem?_eq_some_iff.1 hm).1
  refine app_wp h (v:=v) (W':=W') (fun ty=> ?_) (hK _ W' β _ rfl ?_)
  · rw [R.ev hkx, R.ev hky]
    simp only[hv]
    exact hr
  · have := R'.put d (v := .slice (some ⟨i, 0, none⟩) (L.length + N.length) cap) (by simp only [okp, List.length_set]; simp [hil]) c ch
    rw[← hv'] at this
    exact this
end
end Go.Ev

set_option linter.unusedSimpArgs false
set_option linter.unusedVariables false
/-! A region with several calls that answer new slices. -/
namespace Go.Ev
open Go.RowKit Go.Calm Go.Proofs.YtcfnjcacdmkgbaaDoor
section
variable {P:Program} {E:En P}
theorem runsL_callS {ops:Array Oper} {Ls:List Oper} (k:Nat) {tm tm1:List Value} {mem mem1:List Mb} {c1:Prop} {ch1 ch':List (Option Value)} (h1:evL E ops (Ls.take k) ⟨tm,mem,True,ch1⟩=some ⟨tm1,mem1,c1,ch'⟩) (hc1:c1) {f:FuncId} {xs:List Operand} {d:Option Tmp} (ha:isCl (Ls[k]?)=some (f,xs,d)) (hf:∀ args (w:World),(callFunc f args).run P w= .ok (.enter f args) w) {args:List Value} (hxs:xs.map (opn tm1)=args) {q:IntKind} {m:Nat} {L:List Int} {e:TypeId} (hM:MakesA P f mem1 args q m L e (E.fk / big)) {i:Nat} (hi:mem1.length=i) (hl:i+1<big) {K:Sy→Prop} (h2:∀ cap c ch,L.length≤cap→RunsL P ops (Ls.drop (k+1)) ⟨putS tm1 d (.slice (some ⟨i,0,none⟩) m cap),mem1 ++ [(wA q cap L,e,(0,0))],c,ch⟩ K E.fk) {c0:Prop} {ch0:List (Option Value)}:RunsL P ops Ls ⟨tm,mem,c0,ch0⟩ K E.fk:=by
  obtain⟨o,ho⟩:∃ o,Ls[k]? =some o:=by
    cases h:Ls[k]? with
    |none=>rw[h] at ha;simp[isCl] at ha
    |some o=>exact⟨o,rfl⟩
  rw[ho] at ha
  have e1:=take_split ho
  subst hi
  have main:RunsL P ops (Ls.take k ++ ([o] ++ Ls.drop (k+1))) ⟨tm,mem,c0,ch0⟩ K E.fk:=by
    refine runsL_cat (runsL_ev ch1 h1 hc1) (fun s hs=> ?_)
    subst hs
    refine runsL_cat (runsL_call ha hf (by rw[hxs];exact hM) hl) ?_
    rintro s ⟨cap',hge,rfl⟩
    exact h2 cap' _ _ hge
  rw[← e1] at main
  exact main
end
end Go.Ev

set_option linter.unusedSimpArgs false
set_option linter.unusedVariables false
/-! Append of noughts. -/
namespace Go.Ev
open Go.RowKit Go.Calm Go.Proofs.YtcfnjcacdmkgbaaDoor
section
variable {P:Program} {E:En P} {fk:Nat}
end
end Go.Ev

set_option linter.unusedSimpArgs false
set_option linter.unusedVariables false
/-! States by the slots that matter, and pieces of code that lead from one to another. -/
namespace Go.Ev
open Go.RowKit Go.Calm Go.Proofs.YtcfnjcacdmkgbaaDoor
structure FS where
  u:Bool
  n:Nat
  sl:List (Nat×Value)
  mem:List Mb
def mkT:List (Nat×Value)→(Nat→Value)→Nat→Nat→List Value
  |_,_,_,0=> []
  | [],j,i,k+1=>j i :: mkT [] j (i+1) k
  |p :: r,j,i,k+1=>bif Nat.beq p.1 i then p.2 :: mkT r j (i+1) k else j i :: mkT (p :: r) j (i+1) k
def FS.at (S:FS) (j:Nat→Value) (c:Prop) (ch:List (Option Value)):Sy:=⟨mkT S.sl (bif S.u then fun _=>undef else j) 0 S.n,S.mem,c,ch⟩
def srt:List (Nat×Value)→Nat→Nat→Bool
  | [],_,_=>true
  |p :: r,i,n=>Nat.ble i p.1 && Nat.blt p.1 n && srt r (p.1+1) n
theorem srt_ge:∀(l:List (Nat×Value)) (i n:Nat),srt l i n=true→∀ p ∈ l,i≤p.1∧p.1<n
  | [],_,_,_=>fun p hp=>by simp at hp
  | q :: r, i, n, h => fun p hp => by
    simp only[srt,Bool.and_eq_true,Nat.ble_eq,Nat.blt_eq] at h
    rcases List.mem_cons.1 hp with rfl|hp
    · exact⟨h.1.1,h.1.2⟩
    · have := srt_ge r _ _ h.2 p hp
      omega
theorem mkT_of : ∀ (k i : Nat) (l : List (Nat × Value)) (tm : List Value) (j : Nat → Value), srt l i (i + k) = true → tm.length = k → (∀ p ∈ l, tm.getD (p.1 - i) undef = p.2) → (∀ q, j (i + q) = tm.getD q undef) → tm = mkT l j i k
  | 0, i, l, tm, j, _, hn, _, _ => by
    have:tm= []:=List.length_eq_zero_iff.1 hn
    subst this
    cases l<;>rfl
  |k+1,i,l,[],j,_,hn,_,_=>by simp at hn
  | k + 1, i, [], x :: r, j, hs, hn, hv, hj => by
    have h0:=hj 0
    simp only[Nat.add_zero,List.getD_cons_zero] at h0
    show x :: r=j i :: mkT [] j (i+1) k
    rw [h0, ← mkT_of k (i + 1) [] r j rfl (by simpa using hn) (fun p hp => by simp at hp) (fun q => by
      have:=hj (q+1)
      rw[List.getD_cons_succ] at this
      rw[← this];congr 1;omega)]
  | k + 1, i, p :: l, x :: r, j, hs, hn, hv, hj => by
    have hj':∀ q,j (i+1+q)=r.getD q undef:=fun q=>by
      have:=hj (q+1)
      rw[List.getD_cons_succ] at this
      rw[← this];congr 1;omega
    have h0:=hj 0
    simp only[Nat.add_zero,List.getD_cons_zero] at h0
    have hge:=srt_ge _ _ _ hs
    have hs':=hs
    simp only[srt,Bool.and_eq_true,Nat.ble_eq,Nat.blt_eq] at hs'
    show x :: r=bif Nat.beq p.1 i then p.2 :: mkT l j (i+1) k else j i :: mkT (p :: l) j (i+1) k
    by_cases he:p.1=i
    · rw [show Nat.beq p.1 i = true from by rw [he]; exact Nat.beq_refl i]
      have h1:=hv p (List.mem_cons_self ..)
      rw[he,Nat.sub_self,List.getD_cons_zero] at h1
      show x :: r=p.2 :: mkT l j (i+1) k
      have hl:srt l (i+1) (i+1+k)=true:=by
        have:=hs'.2
        rw[he] at this
        rwa[show i+1+k=i+(k+1) by omega]
      rw [h1, ← mkT_of k (i + 1) l r j hl (by simpa using hn) (fun z hz => by
        have h2:=hv z (List.mem_cons_of_mem _ hz)
        have h3:=(srt_ge _ _ _ hl z hz).1
        rw[show z.1 - i=(z.1 - (i+1))+1 by omega,List.getD_cons_succ] at h2
        exact h2) hj']
    · rw [show Nat.beq p.1 i = false from by
        cases hb:Nat.beq p.1 i with
        |false=>rfl
        |true=>exact absurd (Nat.eq_of_beq_eq_true hb) he]
      show x :: r=j i :: mkT (p :: l) j (i+1) k
      have h3:=(hge p (List.mem_cons_self ..)).1
      have hl:srt (p :: l) (i+1) (i+1+k)=true:=by
        simp only[srt,Bool.and_eq_true,Nat.ble_eq,Nat.blt_eq]
        rw[show i+1+k=i+(k+1) by omega]
        exact⟨⟨by omega,hs'.1.2⟩,hs'.2⟩
      rw [h0, ← mkT_of k (i + 1) (p :: l) r j hl (by simpa using hn) (fun z hz => by
        have h2:=hv z hz
        have h4:=(srt_ge _ _ _ hl z hz).1
        rw[show z.1 - i=(z.1 - (i+1))+1 by omega,List.getD_cons_succ] at h2
        exact h2) hj']
def fmap (m:Option (Bool×Nat)) (M:Nat) (s:Sy):Sy:=match m with
  |none=>s
  |some (false,n)=>⟨s.tm.map (dn n M),s.mem.take n,s.c,s.ch⟩
  |some (true,i)=>⟨s.tm.map (ov i (s.mem.length - 1) M),(s.mem.take (s.mem.length - 1)).set i (s.mem.getD (s.mem.length - 1) default),s.c,s.ch⟩
def side (fk:Nat) (m:Option (Bool×Nat)) (s:Sy):Bool:=match m with
  |none=>true
  |some (false,n)=>Nat.ble (fk / big) n && Nat.ble n s.mem.length
  |some (true,i)=>Nat.ble (fk / big) (fk%big) && Nat.ble (fk%big) i && Nat.blt (i+1) s.mem.length
def fin (fk:Nat) (m:Option (Bool×Nat)) (M:Nat) (Z:FS) (s:Sy):Bool×Nat×List Mb×List Value:=(!Z.u && srt Z.sl 0 Z.n && side fk m s,(fmap m M s).tm.length,(fmap m M s).mem,Z.sl.map fun p=>(fmap m M s).tm.getD p.1 undef)
theorem fin_at {fk:Nat} {m:Option (Bool×Nat)} {M:Nat} {Z:FS} {s:Sy} (h:fin fk m M Z s=(true,Z.n,Z.mem,Z.sl.map (·.2))):∃ j c ch,fmap m M s=Z.at j c ch:=by
  simp only[fin,Prod.mk.injEq,Bool.and_eq_true,Bool.not_eq_true'] at h
  obtain⟨⟨⟨h1,h2⟩,h3⟩,h4,h5,h6⟩:=h
  refine⟨fun q=>(fmap m M s).tm.getD q undef,(fmap m M s).c,(fmap m M s).ch,?_⟩
  unfold FS.at
  rw[h1,← h5]
  have:=mkT_of Z.n 0 Z.sl (fmap m M s).tm (fun q=>(fmap m M s).tm.getD q undef) (by rwa[Nat.zero_add]) h4 (fun p hp=>by
    rw[Nat.sub_zero]
    exact List.map_inj_left.1 h6 p hp) (fun q=>by rw[Nat.zero_add])
  simp only[cond_false]
  rw[← this]
theorem fin_side {fk:Nat} {m:Option (Bool×Nat)} {M:Nat} {Z:FS} {s:Sy} (h:fin fk m M Z s=(true,Z.n,Z.mem,Z.sl.map (·.2))):side fk m s=true:=by
  simp only[fin,Prod.mk.injEq,Bool.and_eq_true] at h
  exact h.1.2
section
variable {P:Program} {fk:Nat}
theorem runs_md {c : Code} {σ : Sy} {K1 K : Exit → Sy → Prop} (m : Option (Bool × Nat)) (h : Runs P c σ K1 fk) (hK : ∀ e s, K1 e s → side fk m s = true ∧ ∀ M, K e (fmap m M s)) : Runs P c σ K fk := by
  match m,hK with
  |none,hK=>exact h.mono fun e s k=>(hK e s k).2 0
  | some (false, n), hK =>
    refine Runs.dropG h fun e s k=> ?_
    obtain⟨h1,h2⟩:=hK e s k
    simp only[side,Bool.and_eq_true,Nat.ble_eq] at h1
    have e1:(s.mem.take n).length=n:=by rw[List.length_take];omega
    refine⟨s.mem.take n,s.mem.drop n,(List.take_append_drop n _).symm,by rw[e1];exact h1.1,fun M=> ?_⟩
    rw[e1]
    exact h2 M
  | some (true, i), hK =>
    by_cases hg:fk / big≤fk%big
    · refine Runs.over h hg fun e s k => ?_
      obtain⟨h1,h2⟩:=hK e s k
      simp only[side,Bool.and_eq_true,Nat.ble_eq,Nat.blt_eq] at h1
      have e1:(s.mem.take (s.mem.length - 1)).length=s.mem.length - 1:=by rw[List.length_take];omega
      refine⟨s.mem.take (s.mem.length - 1),s.mem.getD (s.mem.length - 1) default,i,?_,h1.1.2,by rw[e1];omega,fun M=> ?_⟩
      · have hl : s.mem.length - 1 < s.mem.length := by omega
        rw[List.getD_eq_getElem?_getD,List.getElem?_eq_getElem hl]
        simp only[Option.getD_some]
        conv=>lhs;rw[← List.take_append_drop (s.mem.length - 1) s.mem]
        rw[List.drop_eq_getElem_cons hl,show s.mem.length - 1+1=s.mem.length by omega,List.drop_length]
      · rw [e1]
        exact h2 M
    · exact h.mono fun e s k=>by
        have h1:=(hK e s k).1
        simp only[side,Bool.and_eq_true,Nat.ble_eq] at h1
        exact absurd h1.1.1 hg
def RnX (P:Program) (c:Code) (S:FS) (K:Exit→FS→Prop) (fk:Nat):Prop:=∀ j c0 ch0,Runs P c (S.at j c0 ch0) (fun e s=>∃ Z,K e Z∧∃ j c ch,s=Z.at j c ch) fk
def Rn (P:Program) (c:Code) (S:FS) (e:Exit) (K:FS→Prop) (fk:Nat):Prop:=RnX P c S (fun e' Z=>e'=e∧K Z) fk
theorem RnX.mono {c:Code} {S:FS} {K K':Exit→FS→Prop} (h:RnX P c S K fk) (hK:∀ e Z,K e Z→K' e Z):RnX P c S K' fk:=fun j c0 ch0=>(h j c0 ch0).mono fun e s ⟨Z,k,q⟩=>⟨Z,hK e Z k,q⟩
theorem Rn.mono {c:Code} {S:FS} {e:Exit} {K K':FS→Prop} (h:Rn P c S e K fk) (hK:∀ Z,K Z→K' Z):Rn P c S e K' fk:=RnX.mono h fun _ Z ⟨h1,h2⟩=>⟨h1,hK Z h2⟩
theorem Rn.x {c:Code} {S:FS} {e:Exit} {K:FS→Prop} {K':Exit→FS→Prop} (h:Rn P c S e K fk) (hK:∀ Z,K Z→K' e Z):RnX P c S K' fk:=RnX.mono h fun _ Z ⟨h1,h2⟩=>h1 ▸ hK Z h2
theorem rnX_seq {x y:Code} {S:FS} {K1 K:Exit→FS→Prop} (h1:RnX P x S K1 fk) (h2:∀ Z,K1 .normal Z→RnX P y Z K fk) (h3:∀ e Z,e≠ .normal→K1 e Z→K e Z):RnX P (.seq x y) S K fk:=fun j c0 ch0=>
  runs_seq (h1 j c0 ch0) (fun s ⟨Z,k,j,c,ch,e⟩=>e ▸ h2 Z k j c ch) (fun e s hne ⟨Z,k,q⟩=>⟨Z,h3 e Z hne k,q⟩)
def isSeq:Code→Bool
  | .seq _ _=>true
  |_=>false
def isBlk (k:Nat):Code→Bool
  | .block l _=>Nat.beq l k
  |_=>false
def isLp (k:Nat):Code→Bool
  | .block l (.loop _)=>Nat.beq l k
  |_=>false
theorem cAt_app:∀(w v:List Nat) (c:Code),cAt (w ++ v) c=cAt v (cAt w c)
  | [],_,_=>rfl
  | x :: r, v, c => by
    cases c with
    | seq a b => match x with
      |0=>exact cAt_app r v a
      |k+1=>exact cAt_app r v b
    | cond p a b => match x with
      |0=>exact cAt_app r v a
      |k+1=>exact cAt_app r v b
    | block l a => match x with
      |0=>exact cAt_app r v a
      |k+1=>exact cAt_app r v a
    | loop a => match x with
      |0=>exact cAt_app r v a
      |k+1=>exact cAt_app r v a
    | _ => match x, v with
      |0,[]=>rfl
      |0,0 :: _=>rfl
      |0,(_+1) :: _=>rfl
      |_+1,[]=>rfl
      |_+1,0 :: _=>rfl
      |_+1,(_+1) :: _=>rfl
theorem cAt_seq {w:List Nat} {B:Code} (h:isSeq (cAt w B)=true):cAt w B= .seq (cAt (w ++ [0]) B) (cAt (w ++ [1]) B):=by
  rw[cAt_app,cAt_app]
  cases hc:cAt w B<;>rw[hc] at h<;>first|rfl|cases h
theorem cAt_blk {w:List Nat} {B:Code} {k:Nat} (h:isBlk k (cAt w B)=true):cAt w B= .block k (cAt (w ++ [0]) B):=by
  rw[cAt_app]
  cases hc:cAt w B<;>rw[hc] at h<;>first|cases h;done|skip
  rw[← Nat.eq_of_beq_eq_true h]
  rfl
theorem cAt_lp {w:List Nat} {B:Code} {k:Nat} (h:isLp k (cAt w B)=true):cAt w B= .block k (.loop (cAt (w ++ [0,0]) B)):=by
  rw[cAt_app]
  unfold isLp at h
  split at h
  · rename_i l x hc
    rw[hc,← Nat.eq_of_beq_eq_true h]
    rfl
  · cases h
theorem rn_seq {w:List Nat} {B:Code} {S:FS} {e:Exit} {K1 K:FS→Prop} (hs:isSeq (cAt w B)=true) (h1:Rn P (cAt (w ++ [0]) B) S .normal K1 fk) (h2:∀ Z,K1 Z→Rn P (cAt (w ++ [1]) B) Z e K fk):Rn P (cAt w B) S e K fk:=by
  rw[cAt_seq hs]
  exact rnX_seq h1 (fun Z h=>h2 Z h.2) (fun e Z hne h=>absurd h.1 hne)
theorem rn_seqx {w:List Nat} {B:Code} {S:FS} {e:Exit} {K:FS→Prop} (hs:isSeq (cAt w B)=true) (h1:Rn P (cAt (w ++ [0]) B) S e K fk) (he:e≠ .normal:=by simp):Rn P (cAt w B) S e K fk:=by
  rw[cAt_seq hs]
  exact rnX_seq h1 (fun Z h=>absurd h.1 he.symm) (fun e Z hne h=>h)
theorem rn_block {w:List Nat} {B:Code} {S:FS} {k:Nat} {K:FS→Prop} (hs:isBlk k (cAt w B)=true) (h:Rn P (cAt (w ++ [0]) B) S .normal K fk):Rn P (cAt w B) S .normal K fk:=by
  rw[cAt_blk hs]
  exact fun j c0 ch0=>runs_block (h j c0 ch0) (fun e s ⟨Z,⟨h1,h2⟩,q⟩=> .inr (.inl ⟨h1,Z,⟨rfl,h2⟩,q⟩))
def isCnd (t:Nat):Code→Bool
  | .cond (.tmp x) _ _=>Nat.beq x t
  |_=>false
theorem cAt_cnd {w:List Nat} {B:Code} {t:Nat} (h:isCnd t (cAt w B)=true):cAt w B= .cond (.tmp t) (cAt (w ++ [0]) B) (cAt (w ++ [1]) B):=by
  rw[cAt_app,cAt_app]
  unfold isCnd at h
  split at h
  · rename_i x a b hc
    rw[hc,Nat.eq_of_beq_eq_true h]
    rfl
  · cases h
theorem rn_condT {w:List Nat} {B:Code} {S:FS} {e:Exit} {K:FS→Prop} (t:Nat) (hs:isCnd t (cAt w B)=true) (hv:∀ j,(mkT S.sl (bif S.u then fun _=>undef else j) 0 S.n).getD t undef= .bool true) (h:Rn P (cAt (w ++ [0]) B) S e K fk):Rn P (cAt w B) S e K fk:=by
  rw[cAt_cnd hs]
  exact fun j c0 ch0 Q w0 W β a R hK=>wp_cond_true (by rw[R.evn (x:= .tmp t) rfl (by rw[show opn (S.at j c0 ch0).tm (.tmp t)= .bool true from hv j];rfl),show opn (S.at j c0 ch0).tm (.tmp t)= .bool true from hv j]) (h j c0 ch0 Q w0 W β a R hK)
theorem rn_loop {w:List Nat} {B:Code} {S:FS} {k:Nat} {K:FS→Prop} (hs:isLp k (cAt w B)=true) (I:Nat→FS→Prop) (n0:Nat) (h0:I n0 S) (h:∀ n Z,I n Z→RnX P (cAt (w ++ [0,0]) B) Z (fun e Z'=>(e= .normal∧∃ m,m<n∧I m Z')∨(e= .exit k∧K Z')) fk):Rn P (cAt w B) S .normal K fk:=by
  rw[cAt_lp hs]
  refine fun j c0 ch0=>runs_block (K1:=fun e s=>e= .exit k∧∃ Z,K Z∧∃ j c ch,s=Z.at j c ch) (runs_loop (fun n s=>∃ Z,I n Z∧∃ j c ch,s=Z.at j c ch) n0 ⟨S,h0,j,c0,ch0,rfl⟩ (fun n s ⟨Z,hI,j,c,ch,hs⟩=> ?_)) (fun e s ⟨h1,Z,h2,q⟩=> .inl ⟨h1,Z,⟨rfl,h2⟩,q⟩)
  subst hs
  refine(h n Z hI j c ch).mono fun e s ⟨Z',k,q⟩=> ?_
  rcases k with⟨rfl,m,hm,hI'⟩|⟨rfl,hk⟩
  · exact .inl ⟨rfl,m,hm,Z',hI',q⟩
  · exact .inr ⟨by simp,rfl,Z',hk,q⟩
theorem Rn.old {c:Code} {S:FS} {e:Exit} {K:FS→Prop} (h:Rn P c S e K fk) {tm:List Value} (j:Nat→Value) (ht:mkT S.sl (bif S.u then fun _=>undef else j) 0 S.n=tm) {c0:Prop} {ch0:List (Option Value)}:Runs P c ⟨tm,S.mem,c0,ch0⟩ (fun e' s=>e'=e∧∃ Z,K Z∧∃ j c ch,s=Z.at j c ch) fk:=by
  subst ht
  exact(h j c0 ch0).mono fun e s ⟨Z,⟨h1,h2⟩,q⟩=>⟨h1,Z,h2,q⟩
def trs:Nat→Prop→Prop
  |0,a=>a
  |n+1,a=>trs n (a∧True)
def cj:Prop→List (Nat×Prop)→Nat→Prop
  |a,[],k=>trs k a
  |a,(n,p) :: r,k=>cj (trs (n / 2) a∧(bif Nat.beq (n%2) 1 then True∧p else p)) r k
def AL:List (Nat×Prop)→Prop
  | []=>True
  |(_,p) :: r=>p∧AL r
theorem A0:AL []:=trivial
theorem A1 {n:Nat} {p:Prop} {r:List (Nat×Prop)} (h:p) (t:AL r):AL ((n,p) :: r):=⟨h,t⟩
theorem trs_ok:∀ {n:Nat} {a:Prop},a→trs n a
  |0,_,h=>h
  |n+1,_,h=>trs_ok (n:=n) ⟨h,trivial⟩
theorem cj_ok:∀ {l:List (Nat×Prop)} {k:Nat} {a:Prop},a→AL l→cj a l k
  | [],k,_,h,_=>trs_ok (n:=k) h
  | (n, p) :: r, k, a, h, ⟨h1, h2⟩ => by
    refine cj_ok (l:=r) ⟨trs_ok h,?_⟩ h2
    cases Nat.beq (n%2) 1
    · exact h1
    · exact⟨trivial,h1⟩
abbrev bdN (j:Int) (n:Nat):Prop:=0≤j∧j<(n:Int)
theorem bdd {j:Int} {n:Nat} (h:decide (0≤j∧j<(n:Int))=true):bdN j n:=of_decide_eq_true h
theorem zL:(∀ a b:List Int,(a ++ b).length=a.length+b.length)∧(∀(x:Int) (a:List Int),(x :: a).length=a.length+1)∧([]:List Int).length=0:=⟨fun _ _=>List.length_append,fun _ _=>List.length_cons,rfl⟩
theorem wi64 {x y:Int} (h:x=y∧ -9223372036854775808≤x∧x<9223372036854775808):IntKind.i64.wrap x=y:=by rw[IntKind.wrap_i64];omega
theorem wu64 {x y:Int} (h:x=y∧0≤x∧x<18446744073709551616):IntKind.u64.wrap x=y:=by rw[IntKind.wrap_u64];omega
theorem wu8 {x y:Int} (h:x=y∧0≤x∧x<256):IntKind.u8.wrap x=y:=by rw[IntKind.wrap_u8];omega
variable {E:En P}
theorem rn_evM (E:En P) (N:Nat→Hn) {c:Code} {S:FS} {e:Exit} {K:FS→Prop} (hm:P.follows .mixedOrders=true) (Z:Nat→FS) (m:Option (Bool×Nat)) (ch:List (Option Value)) (l:List (Nat×Prop)) (k:Nat) (h:∀ j M,(evC E N c (S.at j True ch)).map (fun r=>(r.1,r.2.c,fin E.fk m M (Z M) r.2))=some (e,cj True l k,true,(Z M).n,(Z M).mem,(Z M).sl.map (·.2))) (hC:AL l) (hK:∀ M,K (Z M)):Rn P c S e K E.fk:=fun j c0 ch0=>by
  obtain⟨r,hr⟩:∃ r,evC E N c (S.at j True ch)=some r:=by
    have:=h j 0
    cases hc:evC E N c (S.at j True ch) with
    |none=>rw[hc] at this;cases this
    |some r=>exact⟨r,rfl⟩
  obtain⟨e',s'⟩:=r
  have hj:=fun M=>h j M
  rw[hr] at hj
  simp only[Option.map_some,Option.some.injEq] at hj
  have h0:=hj 0
  refine runs_md m (runs_ev hm ch hr (by rw[(Prod.mk.inj (Prod.mk.inj h0).2).1];exact cj_ok trivial hC)) ?_
  rintro e2 s2 ⟨rfl,rfl⟩
  have hz:∀ M,fin E.fk m M (Z M) s2=(true,(Z M).n,(Z M).mem,(Z M).sl.map (·.2)):=fun M=>(Prod.mk.inj (Prod.mk.inj (hj M)).2).2
  exact⟨fin_side (hz 0),fun M=>⟨Z M,⟨(Prod.mk.inj h0).1,hK M⟩,fin_at (hz M)⟩⟩
theorem rn_ev (E:En P) (N:Nat→Hn) {c:Code} {S:FS} {e:Exit} {K:FS→Prop} (hm:P.follows .mixedOrders=true) (Z:FS) (m:Option (Bool×Nat)) (ch:List (Option Value)) (l:List (Nat×Prop)) (k:Nat) (h:∀ j M,(evC E N c (S.at j True ch)).map (fun r=>(r.1,r.2.c,fin E.fk m M Z r.2))=some (e,cj True l k,true,Z.n,Z.mem,Z.sl.map (·.2))) (hC:AL l) (hK:K Z):Rn P c S e K E.fk:=rn_evM E N hm (fun _=>Z) m ch l k h hC fun _=>hK
def Kz (fk:Nat) (m:Option (Bool×Nat)) (K:FS→Prop) (s:Sy):Prop:=side fk m s=true∧∀ M,∃ Z,K Z∧∃ j c ch,fmap m M s=Z.at j c ch
theorem rn_reg {c:Code} {S:FS} {K:FS→Prop} (m:Option (Bool×Nat)) (hr:isReg c=true) (h:∀ j c0 ch0,RunsL P (oT c) (oT c).toList (S.at j c0 ch0) (Kz fk m K) fk):Rn P c S .normal K fk:=fun j c0 ch0=>
  runs_md m (runs_region hr (h j c0 ch0)) fun e s ⟨h1,h2,h3⟩=>⟨h2,fun M=>by
    obtain⟨Z,hZ,q⟩:=h3 M
    exact⟨Z,⟨h1,hZ⟩,q⟩⟩
theorem rl_endM {ops:Array Oper} {Ls:List Oper} {σ:Sy} {K:FS→Prop} {m:Option (Bool×Nat)} (Z:Nat→FS) (ch:List (Option Value)) (l:List (Nat×Prop)) (k:Nat) (h:∀ M,(evL E ops Ls ⟨σ.tm,σ.mem,True,ch⟩).map (fun r=>(r.c,fin E.fk m M (Z M) r))=some (cj True l k,true,(Z M).n,(Z M).mem,(Z M).sl.map (·.2))) (hC:AL l) (hK:∀ M,K (Z M)):RunsL P ops Ls σ (Kz E.fk m K) E.fk:=by
  obtain⟨r,hr⟩:∃ r,evL E ops Ls ⟨σ.tm,σ.mem,True,ch⟩=some r:=by
    have:=h 0
    cases hc:evL E ops Ls ⟨σ.tm,σ.mem,True,ch⟩ with
    |none=>rw[hc] at this;cases this
    |some r=>exact⟨r,rfl⟩
  rw[hr] at h
  simp only[Option.map_some,Option.some.injEq] at h
  have hz:∀ M,fin E.fk m M (Z M) r=(true,(Z M).n,(Z M).mem,(Z M).sl.map (·.2)):=fun M=>(Prod.mk.inj (h M)).2
  have hc:r.c:=by rw[(Prod.mk.inj (h 0)).1];exact cj_ok trivial hC
  obtain⟨tm,mem,c0,ch0⟩:=σ
  exact(runsL_ev ch hr hc).mono fun s hs=>by
    subst hs
    exact⟨fin_side (hz 0),fun M=>⟨Z M,hK M,fin_at (hz M)⟩⟩
theorem rl_end {ops:Array Oper} {Ls:List Oper} {σ:Sy} {K:FS→Prop} {m:Option (Bool×Nat)} (Z:FS) (ch:List (Option Value)) (l:List (Nat×Prop)) (k:Nat) (h:∀ M,(evL E ops Ls ⟨σ.tm,σ.mem,True,ch⟩).map (fun r=>(r.c,fin E.fk m M Z r))=some (cj True l k,true,Z.n,Z.mem,Z.sl.map (·.2))) (hC:AL l) (hK:K Z):RunsL P ops Ls σ (Kz E.fk m K) E.fk:=rl_endM (fun _=>Z) ch l k h hC fun _=>hK
def tmB (E:En P) (ops:Array Oper) (l:List Oper) (σ:Sy) (ch:List (Option Value)):List Value:=match evL E ops l ⟨σ.tm,σ.mem,True,ch⟩ with
  |some r=>r.tm
  |none=> []
def apS (o:Option Oper) (tm:List Value):Option (TypeId×TypeId×Value×Value×Option Tmp):=match isApp o with
  |some r=>some (r.1,r.2.1,opn tm r.2.2.1,opn tm r.2.2.2.1,r.2.2.2.2)
  |none=>none
theorem apS_of {o:Option Oper} {tm:List Value} {t tx:TypeId} {u v:Value} {d:Option Tmp} (h:apS o tm=some (t,tx,u,v,d)):∃ x y,isApp o=some (t,tx,x,y,d)∧opn tm x=u∧opn tm y=v:=by
  unfold apS at h
  split at h
  · rename_i r hr
    obtain⟨t',tx',x,y,d'⟩:=r
    simp only[Option.some.injEq,Prod.mk.injEq] at h
    obtain⟨rfl,rfl,rfl,rfl,rfl⟩:=h
    exact⟨x,y,hr,rfl,rfl⟩
  · cases h
theorem evL_some {ops:Array Oper} {l:List Oper} {σ:Sy} {ch:List (Option Value)} {α:Type} {f:Sy→α} {a:α} (h:(evL E ops l ⟨σ.tm,σ.mem,True,ch⟩).map f=some a):∃ r,evL E ops l ⟨σ.tm,σ.mem,True,ch⟩=some r∧f r=a∧tmB E ops l σ ch=r.tm:=by
  unfold tmB
  cases hc:evL E ops l ⟨σ.tm,σ.mem,True,ch⟩ with
  |none=>rw[hc] at h;cases h
  | some r =>
    rw[hc] at h
    simp only[Option.map_some,Option.some.injEq] at h
    exact⟨r,rfl,h,rfl⟩
theorem rl_app {ops:Array Oper} {Ls:List Oper} {σ:Sy} {K:Sy→Prop} (E:En P) {t tx e ex:TypeId} {qk:IntKind} {by':Nat} (T:ApT P t e qk by') (hx:P.underlying tx=some (.slice ex)) (k:Nat) (ch:List (Option Value)) (l:List (Nat×Prop)) (kk:Nat) (m1:List Mb) (i len cap:Nat) (L N:List Int) (u:Value) (d:Option Tmp)
    (h:(evL E ops (Ls.take k) ⟨σ.tm,σ.mem,True,ch⟩).map (fun r=>(r.c,r.mem,apS Ls[k]? r.tm,r.mem[i]?, Nat.ble (E.fk / big) (E.fk%big),Nat.ble (E.fk%big) i,Nat.ble by' 8))=some (cj True l kk,m1,some (t,tx,.slice (some ⟨i,0,none⟩) len cap,u,d),some (wA qk cap L,e,(0,0)),true,true,true))
    (hC:AL l) (hlen:len=L.length) (hL:L.length≤cap) (hu:SrcOk qk m1 u N) (hb:L.length+N.length≤1099511627776)
    (h2:∀ n cap' M c ch',n=L.length+N.length→n≤cap'→RunsL P ops (Ls.drop (k+1)) ⟨putS ((tmB E ops (Ls.take k) σ ch).map (al i M)) d (.slice (some ⟨i,0,none⟩) n cap'),m1.set i (wA qk cap' (L ++ N),e,(0,0)),c,ch'⟩ K E.fk):RunsL P ops Ls σ K E.fk:=by
  obtain⟨r,hr,hf,ht⟩:=evL_some h
  obtain⟨tm,mem,c0,ch0⟩:=σ
  obtain⟨tm1,mem1,c1,ch1⟩:=r
  rw[ht] at h2
  simp only[Prod.mk.injEq,Nat.ble_eq] at hf
  obtain⟨e1,rfl,e3,e4,e5,e6,e7⟩:=hf
  obtain⟨x,y,ha,hvx,hvy⟩:=apS_of e3
  subst hvy
  have h8:2*(L.length+N.length)*by'≤2*1099511627776*8:=Nat.mul_le_mul (by omega) e7
  exact runsL_appS k hr (by rw[e1];exact cj_ok trivial hC) ha T hx e5 e6 hvx hlen e4 hL hu (Nat.le_trans h8 (by decide)) (by omega) (fun n cap' M c ch hn hk=>h2 n cap' M c ch hn hk)
theorem rl_appR {ops:Array Oper} {Ls:List Oper} {σ:Sy} {K:Sy→Prop} (E:En P) {t tx e ex:TypeId} {qk:IntKind} {by':Nat} (T:ApT P t e qk by') (hx:P.underlying tx=some (.slice ex)) (k:Nat) (ch:List (Option Value)) (l:List (Nat×Prop)) (kk:Nat) (m1:List Mb) (i len cap:Nat) (L N:List Int) (u:Value) (d:Option Tmp)
    (h:(evL E ops (Ls.take k) ⟨σ.tm,σ.mem,True,ch⟩).map (fun r=>(r.c,r.mem,apS Ls[k]? r.tm,r.mem[i]?, Nat.ble (E.fk / big) (E.fk%big),Nat.ble (E.fk%big) i))=some (cj True l kk,m1,some (t,tx,.slice (some ⟨i,0,none⟩) len cap,u,d),some (wA qk cap L,e,(0,0)),true,true))
    (hC:AL l) (hlen:len=L.length) (hL:L.length+N.length≤cap) (hu:SrcOk qk m1 u N)
    (h2:∀ n c ch',n=L.length+N.length→RunsL P ops (Ls.drop (k+1)) ⟨putS (tmB E ops (Ls.take k) σ ch) d (.slice (some ⟨i,0,none⟩) n cap),m1.set i (wA qk cap (L ++ N),e,(0,0)),c,ch'⟩ K E.fk):RunsL P ops Ls σ K E.fk:=by
  obtain⟨r,hr,hf,ht⟩:=evL_some h
  obtain⟨tm,mem,c0,ch0⟩:=σ
  obtain⟨tm1,mem1,c1,ch1⟩:=r
  rw[ht] at h2
  simp only[Prod.mk.injEq,Nat.ble_eq] at hf
  obtain⟨e1,rfl,e3,e4,e5,e6⟩:=hf
  obtain⟨x,y,ha,hvx,hvy⟩:=apS_of e3
  subst hvy
  obtain⟨o,ho⟩:∃ o,Ls[k]? =some o:=by
    cases h:Ls[k]? with
    |none=>rw[h] at ha;simp[isApp] at ha
    |some o=>exact⟨o,rfl⟩
  rw[ho] at ha
  have main:RunsL P ops (Ls.take k ++ ([o] ++ Ls.drop (k+1))) ⟨tm,mem,c0,ch0⟩ K E.fk:=by
    refine runsL_cat (runsL_ev ch hr (by rw[e1];exact cj_ok trivial hC)) (fun s hs=> ?_)
    subst hs
    refine runsL_cat (runsL_appR ha T hx e5 e6 hvx hlen e4 hL hu) ?_
    rintro s rfl
    exact h2 _ _ _ rfl
  rw[← take_split ho] at main
  exact main
theorem rl_appN {ops:Array Oper} {Ls:List Oper} {σ:Sy} {K:Sy→Prop} (E:En P) {t tx e ex:TypeId} {qk:IntKind} {by':Nat} (T:ApT P t e qk by') (hx:P.underlying tx=some (.slice ex)) (k:Nat) (ch:List (Option Value)) (l:List (Nat×Prop)) (kk:Nat) (m1:List Mb) (i:Nat) (N:List Int) (u:Value) (d:Option Tmp)
    (h:(evL E ops (Ls.take k) ⟨σ.tm,σ.mem,True,ch⟩).map (fun r=>(r.c,r.mem,apS Ls[k]? r.tm,r.mem.length,Nat.blt (i+1) big,Nat.ble by' 8))=some (cj True l kk,m1,some (t,tx,.slice none 0 0,u,d),i,true,true))
    (hC:AL l) (hu:SrcOk qk m1 u N) (h0:0<N.length) (hb:N.length≤1099511627776)
    (h2:∀ n cap' c ch',n=N.length→n≤cap'→RunsL P ops (Ls.drop (k+1)) ⟨putS (tmB E ops (Ls.take k) σ ch) d (.slice (some ⟨i,0,none⟩) n cap'),m1 ++ [(wA qk cap' N,e,(0,0))],c,ch'⟩ K E.fk):RunsL P ops Ls σ K E.fk:=by
  obtain⟨r,hr,hf,ht⟩:=evL_some h
  obtain⟨tm,mem,c0,ch0⟩:=σ
  obtain⟨tm1,mem1,c1,ch1⟩:=r
  rw[ht] at h2
  simp only[Prod.mk.injEq,Nat.ble_eq,Nat.blt_eq] at hf
  obtain⟨e1,rfl,e3,rfl,e5,e6⟩:=hf
  obtain⟨x,y,ha,hvx,hvy⟩:=apS_of e3
  subst hvy
  obtain⟨o,ho⟩:∃ o,Ls[k]? =some o:=by
    cases h:Ls[k]? with
    |none=>rw[h] at ha;simp[isApp] at ha
    |some o=>exact⟨o,rfl⟩
  rw[ho] at ha
  have h8:2*N.length*by'≤2*1099511627776*8:=Nat.mul_le_mul (by omega) e6
  have main:RunsL P ops (Ls.take k ++ ([o] ++ Ls.drop (k+1))) ⟨tm,mem,c0,ch0⟩ K E.fk:=by
    refine runsL_cat (runsL_ev ch hr (by rw[e1];exact cj_ok trivial hC)) (fun s hs=> ?_)
    subst hs
    refine runsL_cat (runsL_appN ha T hx hvx e5 hu h0 (Nat.le_trans h8 (by decide)) (by omega)) ?_
    rintro s ⟨cap',hge,rfl⟩
    exact h2 _ cap' _ _ rfl hge
  rw[← take_split ho] at main
  exact main
theorem rl_app0 {ops:Array Oper} {Ls:List Oper} {σ:Sy} {K:Sy→Prop} (E:En P) {t tx e ex:TypeId} {qk:IntKind} {by':Nat} (T:ApT P t e qk by') (hx:P.underlying tx=some (.slice ex)) (k:Nat) (ch:List (Option Value)) (l:List (Nat×Prop)) (kk:Nat) (m1:List Mb) (u:Value) (d:Option Tmp)
    (h:(evL E ops (Ls.take k) ⟨σ.tm,σ.mem,True,ch⟩).map (fun r=>(r.c,r.mem,apS Ls[k]? r.tm))=some (cj True l kk,m1,some (t,tx,.slice none 0 0,u,d)))
    (hC:AL l) (hu:SrcOk qk m1 u [])
    (h2:∀ c ch',RunsL P ops (Ls.drop (k+1)) ⟨putS (tmB E ops (Ls.take k) σ ch) d (.slice none 0 0),m1,c,ch'⟩ K E.fk):RunsL P ops Ls σ K E.fk:=by
  obtain⟨r,hr,hf,ht⟩:=evL_some h
  obtain⟨tm,mem,c0,ch0⟩:=σ
  obtain⟨tm1,mem1,c1,ch1⟩:=r
  rw[ht] at h2
  simp only[Prod.mk.injEq] at hf
  obtain⟨e1,rfl,e3⟩:=hf
  obtain⟨x,y,ha,hvx,hvy⟩:=apS_of e3
  subst hvy
  obtain⟨o,ho⟩:∃ o,Ls[k]? =some o:=by
    cases h:Ls[k]? with
    |none=>rw[h] at ha;simp[isApp] at ha
    |some o=>exact⟨o,rfl⟩
  rw[ho] at ha
  have main:RunsL P ops (Ls.take k ++ ([o] ++ Ls.drop (k+1))) ⟨tm,mem,c0,ch0⟩ K E.fk:=by
    refine runsL_cat (runsL_ev ch hr (by rw[e1];exact cj_ok trivial hC)) (fun s hs=> ?_)
    subst hs
    refine runsL_cat (runsL_app0 ha T hx hvx hu) ?_
    rintro s rfl
    exact h2 _ _
  rw[← take_split ho] at main
  exact main
def clS (o:Option Oper) (tm:List Value):Option (FuncId×List Value×Option Tmp):=match isCl o with
  |some r=>some (r.1,r.2.1.map (opn tm),r.2.2)
  |none=>none
theorem rl_call {ops:Array Oper} {Ls:List Oper} {σ:Sy} {K:Sy→Prop} (E:En P) {f:FuncId} (hf:∀ args (w:World),(callFunc f args).run P w= .ok (.enter f args) w) (k:Nat) (ch:List (Option Value)) (l:List (Nat×Prop)) (kk:Nat) {m1:List Mb} {args:List Value} (i:Nat) (d:Option Tmp) {q:IntKind} {m:Nat} {L:List Int} {e:TypeId}
    (hM:MakesA P f m1 args q m L e (E.fk / big))
    (h:(evL E ops (Ls.take k) ⟨σ.tm,σ.mem,True,ch⟩).map (fun r=>(r.c,r.mem,clS Ls[k]? r.tm,r.mem.length,Nat.blt (i+1) big))=some (cj True l kk,m1,some (f,args,d),i,true))
    (hC:AL l)
    (h2:∀ cap' c ch',L.length≤cap'→RunsL P ops (Ls.drop (k+1)) ⟨putS (tmB E ops (Ls.take k) σ ch) d (.slice (some ⟨i,0,none⟩) m cap'),m1 ++ [(wA q cap' L,e,(0,0))],c,ch'⟩ K E.fk):RunsL P ops Ls σ K E.fk:=by
  obtain⟨r,hr,hf2,ht⟩:=evL_some h
  obtain⟨tm,mem,c0,ch0⟩:=σ
  obtain⟨tm1,mem1,c1,ch1⟩:=r
  rw[ht] at h2
  simp only[Prod.mk.injEq,Nat.blt_eq] at hf2
  obtain⟨e1,rfl,e3,rfl,e5⟩:=hf2
  unfold clS at e3
  split at e3
  · rename_i r' hr'
    obtain⟨f',xs,d'⟩:=r'
    simp only[Option.some.injEq,Prod.mk.injEq] at e3
    obtain⟨rfl,rfl,rfl⟩:=e3
    exact runsL_callS k hr (by rw[e1];exact cj_ok trivial hC) hr' hf rfl hM rfl e5 (fun cap c ch hk=>h2 cap c ch hk)
  · cases e3
end
end Go.Ev

set_option linter.unusedSimpArgs false
set_option linter.unusedVariables false
/-! Calls whose answer is not told: a function value, or nothing. -/
namespace Go.Ev
open Go.RowKit Go.Calm Go.Proofs.YtcfnjcacdmkgbaaDoor
section
variable {P:Program} {E:En P} {fk:Nat}
def MakesT (P:Program) (f:FuncId) (mem:List Mb) (args:List Value) (q:IntKind) (n:Nat) (L:List Int) (e:TypeId) (v:Value) (ng:Nat:=0):Prop:=∀ w β,Has w β mem→(∀ i,i<ng→β i=i)→Calls P f (args.map (rn β)).toArray w (fun r w'=>∃ b cap,L.length≤cap∧r= .returned (.tuple #[.slice (some ⟨b,0,none⟩) n cap,v])∧w.heap.size≤b∧w'.heap[b]? =some (.cells (wA q cap L) e (0,0))∧Below w.heap.size w w')
theorem makesT_runs {f:FuncId} {fn:Func} (hf:P.funcs[f]? =some fn) {c:Code} (hb:fn.body=some c) {mem:List Mb} (hk:mem.length=fk%big∧fk / big≤fk%big) {args:List Value} (hn:args.all (okp (fk%big))=true) {q:IntKind} {n:Nat} {L:List Int} {t:TypeId} {v:Value} {r r2:Nat} (hres:fn.results.toList= [.tmp r,.tmp r2]) {K:Exit→Sy→Prop} (h:Runs P c ⟨args ++ List.replicate (fn.ntmps - args.length) undef,mem,True,[]⟩ K fk) (hr:∀ e s,K e s→e= .ret∧np v=true∧s.tm.getD r2 undef=v∧∃ i cap,fk%big≤i∧L.length≤cap∧s.tm.getD r undef= .slice (some ⟨i,0,none⟩) n cap∧s.mem[i]? =some (wA q cap L,t,(0,0))):MakesT P f mem args q n L t v (fk / big):=fun w β hw hg=>by
  refine calls_of_wp hf hb (h _ w w β _ (start hk.1 (by rw[hk.1];exact List.all_eq_true.1 hn) hw (fun i hi=>⟨by rw[hk.1];exact Nat.lt_of_lt_of_le hi hk.2,hg i hi⟩) (by simp) rfl) (fun e s W' β' a' q R'=> ?_))
  obtain⟨rfl,hv,h2,i,cap,hi,hcap,hs,hm⟩:=hr e s q
  have hx:a'.tmps.getD r undef=_:=R'.ev (x:= .tmp r) rfl
  simp only[opn,hs,rn] at hx
  have hy:a'.tmps.getD r2 undef=_:=R'.evn (x:= .tmp r2) rfl (by simp only[opn];rw[h2];exact hv)
  simp only[opn,h2] at hy
  exact⟨R'.d,one [.slice (some ⟨β' i,0,none⟩) n cap,v],results_eq (by rw[hres];simp[-Array.getD_eq_getD_getElem?,resOf,hx,hy]),β' i,cap,hcap,rfl,R'.m.own i hi (List.getElem?_eq_some_iff.1 hm).1,R'.m.has i _ hm,R'.m.below⟩
def isMv:Option Oper→Option (Nat×Nat)
  |some ⟨some d,.move (.tmp x),_,_,_,none⟩=>some (x,d)
  |_=>none
def isEx:Option Oper→Option (Nat×Nat×Nat)
  |some ⟨some d,.extract (.tmp x) i,_,_,_,none⟩=>some (x,i,d)
  |_=>none
theorem runsL_callT {ops : Array Oper} {o0 o1 o2 : Oper} {f : FuncId} {xs : List Operand} {d0 d1 d2 : Nat} (h0 : isCl (some o0) = some (f, xs, some d0)) (h1 : isMv (some o1) = some (d0, d1)) (h2 : isEx (some o2) = some (d1, 0, d2)) (hf : ∀ args (w : World), (callFunc f args).run P w = .ok (.enter f args) w) {tm : List Value} {mem : List Mb} {c : Prop} {ch : List (Option Value)} {q : IntKind} {n : Nat} {L : List Int} {e : TypeId} {v : Value} (hM : MakesT P f mem (xs.map (opn tm)) q n L e v (fk / big)) (hl : mem.length + 1 < big) (hd : d0 < tm.length ∧ d1 < tm.length) :
    RunsL P ops [o0,o1,o2] ⟨tm,mem,c,ch⟩ (fun s=>∃ b cap,L.length≤cap∧s=⟨((tm.set d0 (.tuple #[.slice (some ⟨b,0,none⟩) n cap,v])).set d1 (.tuple #[.slice (some ⟨b,0,none⟩) n cap,v])).set d2 (.slice (some ⟨mem.length,0,none⟩) n cap),mem ++ [(wA q cap L,e,(0,0))],c,ch⟩) fk:=fun Q rest w0 W β a R hK=>by
  obtain⟨dst,op,ty,pos,after,guard⟩:=o0
  unfold isCl at h0
  split at h0
  · rename_i d' f' xs' ts ty' pos' after' e'
    simp only[Option.some.injEq,Oper.mk.injEq] at e'
    obtain⟨rfl,rfl,rfl,rfl,rfl,rfl⟩:=e'
    split at h0
    · rename_i hk
      simp only[Option.some.injEq,Prod.mk.injEq] at h0
      obtain⟨rfl,rfl,rfl⟩:=h0
      have e1:xs'.map a.eval=((xs'.toList.map (opn tm)).map (rn β)).toArray:=by
        rw[List.map_map,← List.map_toArray]
        apply Array.map_congr_left
        intro x hx
        exact R.ev (List.all_eq_true.1 hk x (by simpa using hx))
      have hr:(execOp a.eval ⟨some d0,.call ⟨.value (.func f'),xs',ts⟩,ty,pos,after,none⟩).run P W= .ok (.enter f' (xs'.map a.eval)) W:=by
        have h2:=hf
        go_simp
      refine wpList_plain rfl fun K hK'=> ?_
      unfold Oper.wp
      rw[hr,e1,Oper.upon_enter]
      refine(hM W β R.m.has R.v.gl).mono ?_
      rintro r W' ⟨b,cap,hcap,rfl,hb,hcs,hB⟩
      refine hK' _ _ ?_
      have R1:Rl fk w0 W' (upd β mem.length b) ⟨tm,mem ++ [(wA q cap L,e,(0,0))],c,ch⟩ a:=R.newV none n cap ((R.m.call hB).more hl (Nat.le_trans R.m.below.size hb) (fun i hi=>by
        have:=lt_of_heap (R.m.has i _ (List.getElem?_eq_getElem hi))
        omega) hcs) c
      have R2:=R1.put (some d0) (v:= .tuple #[.slice (some ⟨b,0,none⟩) n cap,v]) rfl c ch
      simp only[putS] at R2
      obtain⟨dst1,op1,ty1,pos1,after1,guard1⟩:=o1
      unfold isMv at h1
      split at h1
      · rename_i d1' x1 ty1' pos1' after1' e1'
        simp only[Option.some.injEq,Oper.mk.injEq] at e1'
        obtain⟨rfl,rfl,rfl,rfl,rfl,rfl⟩:=e1'
        simp only[Option.some.injEq,Prod.mk.injEq] at h1
        obtain⟨rfl,rfl⟩:=h1
        refine wpList_plain rfl fun K hK'=> ?_
        have ev1:=R2.ev (x:= .tmp x1) rfl
        simp only[opn,List.getD_eq_getElem?_getD,List.getElem?_set_self hd.1,Option.getD_some] at ev1
        have hr1:(execOp (Act.eval (a.put (some x1) (rn (upd β mem.length b) (.tuple #[.slice (some ⟨b,0,none⟩) n cap,v])))) ⟨some d1',.move (.tmp x1),ty1,pos1,after1,none⟩).run P W'= .ok (.value (rn (upd β mem.length b) (.tuple #[.slice (some ⟨b,0,none⟩) n cap,v]))) W':=by
          show Result.ok (Next.value (Act.eval (a.put (some x1) (rn (upd β mem.length b) (.tuple #[.slice (some ⟨b,0,none⟩) n cap,v]))) (.tmp x1))) W'=_
          rw[ev1]
        unfold Oper.wp
        erw [hr1]
        refine hK' _ _ ?_
        have R3:=R2.put (some d1') (v:= .tuple #[.slice (some ⟨b,0,none⟩) n cap,v]) rfl c ch
        simp only[putS] at R3
        obtain⟨dst2,op2,ty2,pos2,after2,guard2⟩:=o2
        unfold isEx at h2
        split at h2
        · rename_i d2' x2 i2 ty2' pos2' after2' e2'
          simp only[Option.some.injEq,Oper.mk.injEq] at e2'
          obtain⟨rfl,rfl,rfl,rfl,rfl,rfl⟩:=e2'
          simp only[Option.some.injEq,Prod.mk.injEq] at h2
          obtain⟨rfl,rfl,rfl⟩:=h2
          refine wpList_plain rfl fun K hK'=> ?_
          have ev2:=R3.evn (x:= .tmp x2) rfl (by simp only[opn,List.getD_eq_getElem?_getD];rw[List.getElem?_set_self (by simpa using hd.2)];rfl)
          simp only[opn,List.getD_eq_getElem?_getD] at ev2
          rw[List.getElem?_set_self (by simpa using hd.2)] at ev2
          simp only[Option.getD_some] at ev2
          unfold Oper.wp
          have R4:=R3.put (some d2') (v:= .slice (some ⟨mem.length,0,none⟩) n cap) (by simp[Go.Ev.okp]) c ch
          simp only[putS,rn,upd_new] at R4
          simp only[rn] at ev2
          simp only[execOp,rn,ev2,Instr.extract,Sem.run_bind,Sem.run_pure,Result.andThen_ok]
          exact hK' _ _ (hK _ _ _ _ ⟨b,cap,hcap,rfl⟩ R4)
        · cases h2
      · cases h1
    · cases h0
  · cases h0
theorem take_split3 {Ls:List Oper} {k:Nat} {o0 o1 o2:Oper} (h0:Ls[k]? =some o0) (h1:Ls[k+1]? =some o1) (h2:Ls[k+2]? =some o2):Ls=Ls.take k ++ ([o0,o1,o2] ++ Ls.drop (k+3)):=by
  have e0:=take_split h0
  obtain⟨l0,g0⟩:=List.getElem?_eq_some_iff.1 h0
  obtain⟨l1,g1⟩:=List.getElem?_eq_some_iff.1 h1
  obtain⟨l2,g2⟩:=List.getElem?_eq_some_iff.1 h2
  rw[List.cons_append,List.cons_append,List.singleton_append,← g2,List.getElem_cons_drop,← g1,List.getElem_cons_drop,← g0,List.getElem_cons_drop,List.take_append_drop]
theorem runsL_callTS {ops:Array Oper} {Ls:List Oper} (k:Nat) {tm tm1:List Value} {mem mem1:List Mb} {c1:Prop} {ch1 ch':List (Option Value)} (h1:evL E ops (Ls.take k) ⟨tm,mem,True,ch1⟩=some ⟨tm1,mem1,c1,ch'⟩) (hc1:c1) {f:FuncId} {xs:List Operand} {d0 d1 d2:Nat} (ha:isCl (Ls[k]?)=some (f,xs,some d0)) (hb:isMv (Ls[k+1]?)=some (d0,d1)) (hx:isEx (Ls[k+2]?)=some (d1,0,d2)) (hf:∀ args (w:World),(callFunc f args).run P w= .ok (.enter f args) w) {args:List Value} (hxs:xs.map (opn tm1)=args) {q:IntKind} {n:Nat} {L:List Int} {e:TypeId} {v:Value} (hM:MakesT P f mem1 args q n L e v (E.fk / big)) {i:Nat} (hi:mem1.length=i) (hl:i+1<big) (hd:d0<tm1.length∧d1<tm1.length) {K:Sy→Prop} (h2:∀ b cap c ch,L.length≤cap→RunsL P ops (Ls.drop (k+3)) ⟨((tm1.set d0 (.tuple #[.slice (some ⟨b,0,none⟩) n cap,v])).set d1 (.tuple #[.slice (some ⟨b,0,none⟩) n cap,v])).set d2 (.slice (some ⟨i,0,none⟩) n cap),mem1 ++ [(wA q cap L,e,(0,0))],c,ch⟩ K E.fk) {c0:Prop} {ch0:List (Option Value)}:RunsL P ops Ls ⟨tm,mem,c0,ch0⟩ K E.fk:=by
  obtain⟨o0,ho0⟩:∃ o,Ls[k]? =some o:=by
    cases h:Ls[k]? with
    |none=>rw[h] at ha;simp[isCl] at ha
    |some o=>exact⟨o,rfl⟩
  obtain⟨o1,ho1⟩:∃ o,Ls[k+1]? =some o:=by
    cases h:Ls[k+1]? with
    |none=>rw[h] at hb;simp[isMv] at hb
    |some o=>exact⟨o,rfl⟩
  obtain⟨o2,ho2⟩:∃ o,Ls[k+2]? =some o:=by
    cases h:Ls[k+2]? with
    |none=>rw[h] at hx;simp[isEx] at hx
    |some o=>exact⟨o,rfl⟩
  rw[ho0] at ha
  rw[ho1] at hb
  rw[ho2] at hx
  have e1:=take_split3 ho0 ho1 ho2
  subst hi
  have main:RunsL P ops (Ls.take k ++ ([o0,o1,o2] ++ Ls.drop (k+3))) ⟨tm,mem,c0,ch0⟩ K E.fk:=by
    refine runsL_cat (runsL_ev ch1 h1 hc1) (fun s hs=> ?_)
    subst hs
    refine runsL_cat (runsL_callT ha hb hx hf (by rw[hxs];exact hM) hl hd) ?_
    rintro s ⟨b,cap,hc,rfl⟩
    exact h2 b cap _ _ hc
  rw[← e1] at main
  exact main
end
end Go.Ev
