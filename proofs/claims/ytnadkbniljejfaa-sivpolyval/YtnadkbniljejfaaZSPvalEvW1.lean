import Derived.Test.YtnadkbniljejfaaZSPvalEvAll
import Derived.Test.YtnadkbniljejfaaZSPvalEdEAll
import Derived.Deep.AppendSrc
import Derived.Laws.AppendOwn
set_option linter.unusedSimpArgs false
set_option linter.unusedVariables false
/-! Append to a row of one's own, or to nothing: how much room the new row has is the world's choice. -/
namespace Go.Ev
open Go.RowKit Go.Calm Go.Proofs.Ytnadkbniljejfaa
section
variable {P:Program} {E:En P} {fk:Nat}
structure ApT (P:Program) (t e:TypeId) (q:IntKind) (by':Nat):Prop where
  ht:P.underlying t=some (.slice e)
  hi:(P.info? e).map (fun i=>(i.zero,i.size,i.bytes))=some (some (.int q 0),1,by')
def iv (q:IntKind) (N:List Int):List Value:=N.map (Value.int q)
theorem iv_len (q:IntKind) (N:List Int):(iv q N).length=N.length:=by simp[iv]
theorem wA_list (q:IntKind) (n:Nat) (L:List Int) (h:L.length≤n):wA q n L=(iv q L ++ List.replicate (n - L.length) (Value.int q 0)).toArray:=by
  unfold wA iv
  congr 1
  apply List.ext_getElem?
  intro i
  by_cases hi:i<n
  · rw [List.getElem?_map, List.getElem?_range hi]
    by_cases hL:i<L.length
    · rw [List.getElem?_append_left (by simpa using hL)]
      simp[hL]
    · rw [List.getElem?_append_right (by simp; omega)]
      simp only[List.length_map,List.getElem?_replicate]
      rw[if_pos (by omega)]
      simp[List.getD_eq_getElem?_getD,List.getElem?_eq_none (Nat.not_lt.1 hL)]
  · rw[List.getElem?_eq_none (by simpa using Nat.not_lt.1 hi),List.getElem?_eq_none (by simp;omega)]
theorem wA_size (q:IntKind) (n:Nat) (L:List Int):(wA q n L).size=n:=by simp[wA]
def al (i M:Nat):Value→Value
  | .pointer (some ⟨k,o,none⟩)=>if k=i then .pointer (some ⟨M,o,none⟩) else .pointer (some ⟨k,o,none⟩)
  | .slice (some ⟨k,o,none⟩) l c=>if k=i then .slice (some ⟨M,o,none⟩) l c else .slice (some ⟨k,o,none⟩) l c
  |v=>v
abbrev J (j:Nat→Value) (a n:Nat):List Value:=(List.range n).map fun i=>j (a+i)
abbrev JA (j:Nat→Value) (i M a n:Nat):List Value:=(List.range n).map fun x=>al i M (j (a+x))
abbrev JU (n:Nat):List Value:=List.replicate n undef
theorem al_rn {β β' : Nat → Nat} {i M : Nat} (h1 : β' M = β i) (h2 : ∀ k, k ≠ i → k ≠ M → β' k = β k) {v : Value} (hv : pnum v < M) : rn β' (al i M v) = rn β v := by
  cases v with
  | pointer a =>
    cases a with
    |none=>rfl
    | some a =>
      obtain⟨k,o,s⟩:=a
      cases s with
      | none =>
        simp only[pnum] at hv
        simp only[al]
        split
        · rename_i e;simp only[rn,h1,e]
        · rename_i e;simp only[rn];rw[h2 k e (by omega)]
      |some s=>rfl
  | slice a l c =>
    cases a with
    |none=>rfl
    | some a =>
      obtain⟨k,o,s⟩:=a
      cases s with
      | none =>
        simp only[pnum] at hv
        simp only[al]
        split
        · rename_i e;simp only[rn,h1,e]
        · rename_i e;simp only[rn];rw[h2 k e (by omega)]
      |some s=>rfl
  |_=>rfl
theorem al_ok {i M n : Nat} (hM : big ≤ M) {v : Value} (h : okp n v = true) : okp n (al i M v) = true := by
  cases v with
  | pointer a =>
    cases a with
    |none=>simp[okp] at h
    | some a =>
      obtain⟨k,o,s⟩:=a
      cases s with
      | none =>
        simp only[al]
        split
        · simp only[okp,Bool.or_eq_true,decide_eq_true_eq];omega
        · exact h
      |some s=>simp[okp] at h
  | slice a l c =>
    cases a with
    |none=>rfl
    | some a =>
      obtain⟨k,o,s⟩:=a
      cases s with
      | none =>
        simp only[al]
        split
        · simp only[okp,Bool.or_eq_true,decide_eq_true_eq];omega
        · exact h
      |some s=>simp[okp] at h
  |_=>rfl
theorem app_cells {q:IntKind} {cap:Nat} {L N:List Int} (h:L.length+N.length≤cap):((wA q cap L).toList.take L.length ++ iv q N ++ (wA q cap L).toList.drop (L.length+(iv q N).length)).toArray=wA q cap (L ++ N):=by
  rw[wA_list q cap L (by omega),wA_list q cap (L ++ N) (by simpa using h)]
  simp only[iv_len]
  congr 1
  rw[List.take_append_of_le_length (by simp[iv]),List.take_of_length_le (by simp[iv]),List.drop_append,List.drop_eq_nil_of_le (by simp[iv])]
  simp only[iv,List.map_append,List.length_map,List.drop_replicate,List.nil_append,List.length_append,List.append_assoc]
  congr 3
  omega
theorem app_cells2 {q:IntKind} {cap':Nat} {L N:List Int} (h:L.length+N.length≤cap'):(iv q L ++ iv q N).toArray ++ Builtin.zeroCells (Value.int q 0).cells (cap' - (L.length+N.length))=wA q cap' (L ++ N):=by
  rw[wA_list q cap' (L ++ N) (by simpa using h)]
  apply Array.ext'
  simp[Builtin.zeroCells,Value.cells,iv,List.append_assoc]
  apply List.ext_getElem?
  intro j
  by_cases hj:j<cap' - (L.length+N.length)
  · simp[hj,Nat.mod_one]
  · simp[hj]
structure SrcOk (q:IntKind) (mem:List Mb) (u:Value) (N:List Int):Prop where
  h:(u= .slice none 0 0∧N= [])∨∃ j p c src st,u= .slice (some ⟨j,p,none⟩) N.length c∧mem[j]? =some (src,st)∧p+N.length≤src.size∧src.extract p (p+N.length)=(iv q N).toArray
theorem src_of {q:IntKind} {w0 W:World} {β:Nat→Nat} {mem:List Mb} (R:Rp fk w0 W β mem) {u:Value} {N:List Int} (h:SrcOk q mem u N) {tx ex:TypeId} (hx:P.underlying tx=some (.slice ex)):Src P 1 tx (rn β u) N.length (iv q N) W:=by
  rcases h.h with⟨rfl,rfl⟩|⟨j,p,c,src,st,rfl,hm,hs,he⟩
  · exact Src.ofNil W hx 0
  · refine Src.ofSlice W hx ⟨β j, p, none⟩ N.length c (iv q N) (by simp [iv]) (fun k v hv => ?_) (fun v hv => ?_)
    · have hk : k < N.length := by have := (List.getElem?_eq_some_iff.1 hv).1; simpa [iv] using this
      have ha:(⟨β j,p,none⟩:Addr).add k=⟨β j,p+k,none⟩:=by unfold Addr.add;split<;>simp_all
      rw[ha,cell_of_row W (β j) (p+k) src st.1 _ (R.has j _ hm)]
      have h2:(src.extract p (p+N.length))[k]? =some v:=by rw[he];simpa using hv
      rw[Array.getElem?_extract_of_lt (by omega)] at h2
      rw[← h2,Array.getElem?_eq_getElem (by omega)]
    · obtain ⟨n, _, rfl⟩ := List.mem_map.1 hv
      rfl
theorem app_own {t e tx ex ty : TypeId} {q : IntKind} {by' : Nat} (T : ApT P t e q by') (hx : P.underlying tx = some (.slice ex)) {w0 W : World} {β : Nat → Nat} {σ : Sy} {a : Act} (R : Rl fk w0 W β σ a) {i cap : Nat} {L N : List Int} (hgk : fk / big ≤ fk % big) (hk : fk % big ≤ i) (hm : σ.mem[i]? = some (wA q cap L, e, (0, 0))) (hL : L.length ≤ cap) {u : Value} (hu : SrcOk q σ.mem u N) (hb : 2 * (L.length + N.length) * by' ≤ 281474976710656) (h63 : L.length + N.length ≤ 9223372036854775807) :
    ∃ v W' β' cap' M,(Builtin.append_ #[t,tx] ty #[rn β (.slice (some ⟨i,0,none⟩) L.length cap),rn β u]).run P W= .ok v W'∧L.length+N.length≤cap'∧big≤M∧v=rn β' (.slice (some ⟨i,0,none⟩) (L.length+N.length) cap')∧Rl fk w0 W' β' ⟨σ.tm.map (al i M),σ.mem.set i (wA q cap' (L ++ N),e,(0,0)),σ.c,σ.ch⟩ a:=by
  obtain⟨M,hM1,hM2⟩:=pnum_bd σ.tm
  obtain⟨inf,hinf,hz⟩:=Option.map_eq_some_iff.1 T.hi
  simp only[Prod.mk.injEq] at hz
  obtain⟨hz0,hz1,hz2⟩:=hz
  have hS:=src_of R.m hu hx
  have hrow:=R.m.has i _ hm
  obtain⟨hil,_⟩:=List.getElem?_eq_some_iff.1 hm
  have hlt:=R.m.lt
  have iM:i≠M:=by omega
  by_cases hroom:L.length+N.length≤cap
  · -- there is room
    have hst:=run_storeCells_at (P:=P) (β i) L.length e (iv q N) 0 (wA q cap L) W hrow (by rw[wA_size,iv_len];omega) (fun v hv=>by obtain⟨n,_,rfl⟩:=List.mem_map.1 hv;rfl)
    simp only[Nat.add_zero,app_cells hroom] at hst
    obtain⟨β',hβ⟩:∃ β':Nat→Nat,β'=fun k=>if k=M then β i else β k:=⟨_,rfl⟩
    have b1:β' M=β i:=by simp[hβ]
    have b2:∀ k,k≠M→β' k=β k:=fun k h=>by simp[hβ,h]
    refine⟨.slice (some ⟨β i,0,none⟩) (L.length+N.length) cap,W.setRow (β i) (wA q cap (L ++ N)),β',cap,M,?_,hroom,hM1,by simp only[rn,b2 i iM],?_⟩
    · have e0 : rn β (.slice (some ⟨i, 0, none⟩) L.length cap) = .slice (some ⟨β i, 0, none⟩) L.length cap := rfl
      rw[e0]
      generalize rn β u=ur at hS
      have hs1:(sizeOf e).run P W= .ok 1 W:=by simp[sizeOf,typeInfo,hinf,hz1]
      have hA:(⟨β i,0,none⟩:Addr).add L.length=⟨β i,L.length,none⟩:=by unfold Addr.add;split<;>simp_all
      rcases hS.kind with⟨e',hk'⟩|hk'
      · simp[Builtin.append_,run_underlying T.ht,run_underlying hk',hs1,hS.len,hroom,hS.cells,hA,hst]
      · simp[Builtin.append_,run_underlying T.ht,run_underlying hk',hs1,hS.len,hroom,hS.cells,hA,hst]
    · have R1 := R.m.store hk hm (wA q cap (L ++ N))
      refine⟨⟨R1.below,fun k h1 h2=> ?_,fun k l h1 h2 h3 he=> ?_,fun k x h=> ?_,R1.lt,fun k h=>⟨(R1.gl k h).1,?_⟩⟩,?_,R.d,fun v hv=> ?_⟩
      · have h2' : k < σ.mem.length := by simpa using h2
        rw[b2 k (by omega)];exact R1.own k h1 h2
      · have h2' : k < σ.mem.length := by simpa using h2
        have h3':l<σ.mem.length:=by simpa using h3
        rw[b2 k (by omega),b2 l (by omega)] at he;exact R1.inj k l h1 h2 h3 he
      · have h2' : k < σ.mem.length := by have := (List.getElem?_eq_some_iff.1 h).1; simpa using this
        rw[b2 k (by omega)];exact R1.has k x h
      · have := (R1.gl k h).1
        have h2':k<σ.mem.length:=by simpa using this
        rw[b2 k (by omega)];exact(R1.gl k h).2
      · rw [R.t, List.map_map]
        congr 1
        exact List.map_congr_left fun v hv=>(al_rn b1 (fun k h1 h2=>b2 k h2) (hM2 v hv)).symm
      · obtain ⟨v', hv', rfl⟩ := List.mem_map.1 hv
        simp only[List.length_set]
        exact al_ok hM1 (R.ok v' hv')
  · -- a new row
    have hold:(Builtin.firstCells inf.size L.length (rn β (.slice (some ⟨i,0,none⟩) L.length cap))).run P W.drew= .ok (iv q L).toArray W.drew:=by
      rw[hz1]
      refine run_firstCells_some W.drew 1 L.length ⟨β i,0,none⟩ L.length cap (iv q L) (by simp[iv]) (fun k v hv=> ?_)
      have hk2:k<L.length:=by have:=(List.getElem?_eq_some_iff.1 hv).1;simpa[iv] using this
      have ha:(⟨β i,0,none⟩:Addr).add k=⟨β i,k,none⟩:=by unfold Addr.add;split<;>simp_all
      rw[ha]
      show W.cell? _=_
      rw[cell_of_row W (β i) k _ e _ hrow,wA_list q cap L hL]
      simp only[List.getElem?_toArray]
      rw[List.getElem?_append_left (by simpa[iv] using hk2)]
      exact hv
    have hg:cap<L.length+N.length:=by omega
    have hfit:Builtin.nextslicecap (L.length+N.length) cap*inf.bytes≤281474976710656:=by
      rw[hz2]
      exact Nat.le_trans (Nat.mul_le_mul_right _ (nextslicecap_le hg)) hb
    have hrun:=run_append_grow_src (P:=P) W t tx ty e inf (.int q 0) T.ht hinf hz0 (some ⟨β i,0,none⟩) L.length cap (iv q L) (by simpa only[rn] using hold) (rn β u) N.length (iv q N) (by rw[hz1];exact hS) hg (by omega) hfit
    obtain⟨cap',hcap⟩:∃ c,c=grownCap W (L.length+N.length) cap e:=⟨_,rfl⟩
    have hge:L.length+N.length≤cap':=by rw[hcap];exact grownCap_ge _ _ _ _
    rw[← hcap,app_cells2 hge] at hrun
    obtain⟨β',hβ⟩:∃ β':Nat→Nat,β'=fun k=>if k=M then β i else if k=i then W.heap.size else β k:=⟨_,rfl⟩
    have b1:β' M=β i:=by simp[hβ]
    have b2:∀ k,k≠i→k≠M→β' k=β k:=fun k h h'=>by simp[hβ,h,h']
    have b3:β' i=W.heap.size:=by simp[hβ,iM]
    have hfresh:∀ k,k<σ.mem.length→β k<W.heap.size:=fun k hk=>lt_of_heap (R.m.has k _ (List.getElem?_eq_getElem hk))
    refine⟨.slice (some ⟨W.heap.size,0,none⟩) (L.length+N.length) cap',_,β',cap',M,hrun,hge,hM1,by simp only[rn,b3],?_⟩
    refine⟨⟨?_,fun k h1 h2=> ?_,fun k l h1 h2 h3 he=> ?_,fun k x h=> ?_,by simpa using hlt,fun k h=> ?_⟩,?_,R.d,fun v hv=> ?_⟩
    · exact(R.m.below.drew).alloc R.m.below.size _
    · have h2' : k < σ.mem.length := by simpa using h2
      by_cases hki:k=i
      · rw[hki,b3];exact R.m.below.size
      · rw[b2 k hki (by omega)];exact R.m.own k h1 h2'
    · have h2' : k < σ.mem.length := by simpa using h2
      have h3':l<σ.mem.length:=by simpa using h3
      by_cases hki:k=i
      · by_cases hli : l = i
        · rw[hki,hli]
        · rw [hki, b3, b2 l hli (by omega)] at he
          have:=hfresh l h3'
          omega
      · by_cases hli : l = i
        · rw [hli, b3, b2 k hki (by omega)] at he
          have:=hfresh k h2'
          omega
        · rw [b2 k hki (by omega), b2 l hli (by omega)] at he
          exact R.m.inj k l h1 h2' h3' he
    · have h2' : k < σ.mem.length := by have := (List.getElem?_eq_some_iff.1 h).1; simpa using this
      by_cases hki:k=i
      · subst hki
        simp only at h
        rw[List.getElem?_set_self hil] at h
        simp only[Option.some.injEq] at h
        subst h
        rw[b3]
        exact heap_alloc_new W.drew _
      · simp only at h
        rw[List.getElem?_set_ne (fun e=>hki e.symm)] at h
        rw[b2 k hki (by omega),heap_alloc_old W.drew _ (hfresh k h2')]
        exact R.m.has k x h
    · have hgl := R.m.gl k h
      have hlt2:k<σ.mem.length:=hgl.1
      refine⟨by simpa using hgl.1,?_⟩
      by_cases hki:k=i
      · omega
      · rw[b2 k hki (by omega)];exact hgl.2
    · rw [R.t, List.map_map]
      congr 1
      exact List.map_congr_left fun v hv=>(al_rn b1 b2 (hM2 v hv)).symm
    · obtain ⟨v', hv', rfl⟩ := List.mem_map.1 hv
      simp only[List.length_set]
      exact al_ok hM1 (R.ok v' hv')
theorem app_nil {t e tx ex ty:TypeId} {q:IntKind} {by':Nat} (T:ApT P t e q by') (hx:P.underlying tx=some (.slice ex)) {w0 W:World} {β:Nat→Nat} {σ:Sy} {a:Act} (R:Rl fk w0 W β σ a) {N:List Int} {u:Value} (hl:σ.mem.length+1<big) (hu:SrcOk q σ.mem u N) (h0:0<N.length) (hb:2*N.length*by'≤281474976710656) (h63:N.length≤9223372036854775807) (d:Option Tmp):
    ∃ v W' β' cap',(Builtin.append_ #[t,tx] ty #[.slice none 0 0,rn β u]).run P W= .ok v W'∧N.length≤cap'∧Rl fk w0 W' β' ⟨putS σ.tm d (.slice (some ⟨σ.mem.length,0,none⟩) N.length cap'),σ.mem ++ [(wA q cap' N,e,(0,0))],σ.c,σ.ch⟩ (a.put d v):=by
  obtain⟨inf,hinf,hz⟩:=Option.map_eq_some_iff.1 T.hi
  simp only[Prod.mk.injEq] at hz
  obtain⟨hz0,hz1,hz2⟩:=hz
  have hS:=src_of R.m hu hx
  have hfit:Builtin.nextslicecap (0+N.length) 0*inf.bytes≤281474976710656:=by
    rw[hz2]
    refine Nat.le_trans (Nat.mul_le_mul_right _ (nextslicecap_le (by omega))) ?_
    simpa using hb
  have hrun:=run_append_grow_src (P:=P) W t tx ty e inf (.int q 0) T.ht hinf hz0 none 0 0 [] (by rw[hz1];exact run_firstCells_none W.drew 1 0 0 0) (rn β u) N.length (iv q N) (by rw[hz1];exact hS) (by omega) (by omega) hfit
  obtain⟨cap',hcap⟩:∃ c,c=grownCap W (0+N.length) 0 e:=⟨_,rfl⟩
  have hge:0+N.length≤cap':=by rw[hcap];exact grownCap_ge _ _ _ _
  have hcells:=app_cells2 (q:=q) (L:= []) (N:=N) (cap':=cap') (by simpa using hge)
  simp only[iv,List.map_nil,List.length_nil,List.nil_append] at hcells
  rw[← hcap] at hrun
  simp only[iv,List.nil_append] at hrun
  rw[hcells] at hrun
  simp only[Nat.zero_add] at hrun hge
  refine⟨.slice (some ⟨W.heap.size,0,none⟩) N.length cap',_,upd β σ.mem.length W.heap.size,cap',hrun,hge,?_⟩
  exact Rl.newV R d N.length cap' (R.m.drew.new hl (wA q cap' N) e) σ.c
def RunsL (P:Program) (ops:Array Oper) (l:List Oper) (σ:Sy) (K:Sy→Prop) (fk:Nat:=0):Prop:=∀(Q:Exit→Act→World→Prop) (rest:List Oper) (w0 W:World) (β:Nat→Nat) (a:Act),Rl fk w0 W β σ a→(∀ σ' W' β' a',K σ'→Rl fk w0 W' β' σ' a'→wpList P ops Q rest a' W')→wpList P ops Q (l ++ rest) a W
theorem evLr_ok {ops : Array Oper} : ∀ (l : List Oper) (σ σ' : Sy), evL E ops l σ = some σ' → σ'.c → σ.c ∧ ∀ {Q : Exit → Act → World → Prop} {rest : List Oper} {w0 W : World} {β : Nat → Nat} {a : Act}, Rl E.fk w0 W β σ a → (∀ W' β' a', Rl E.fk w0 W' β' σ' a' → wpList P ops Q rest a' W') → wpList P ops Q (l ++ rest) a W
  | [], σ, σ', h, hc => by
    simp only[evL,Option.some.injEq] at h
    subst h
    exact⟨hc,fun R hK=>hK _ _ _ R⟩
  | o :: r, σ, σ', h, hc => by
    unfold evL at h
    split at h
    · rename_i hw
      split at h
      · rename_i σ1 hs
        obtain⟨h1,h2⟩:=evLr_ok r σ1 σ' h hc
        refine⟨(stM_wp hs h1).1,fun {Q rest w0 W β a} R hK=> ?_⟩
        exact(stM_ok (ops:=ops) (rest:=r ++ rest) hs h1).2 R (by rw[yielded_eq R];exact hw) (fun W' β' a' R'=>h2 R' hK)
      · cases h
    · rename_i hw
      obtain⟨h1,h2⟩:=evLr_ok r (offS σ o) σ' h hc
      exact⟨h1,fun R hK=>wl_off (by rw[yielded_eq R];simpa using hw) (h2 (R.off o) hK)⟩
theorem runsL_ev {ops:Array Oper} {l:List Oper} {tm:List Value} {mem:List Mb} (ch:List (Option Value)) {σ':Sy} (h:evL E ops l ⟨tm,mem,True,ch⟩=some σ') (hc:σ'.c) {c0:Prop} {ch0:List (Option Value)}:RunsL P ops l ⟨tm,mem,c0,ch0⟩ (fun s=>s=σ') E.fk:=
  fun Q rest w0 W β a R hK=>(evLr_ok l _ _ h hc).2 (R.re True ch) (fun W' β' a' R'=>hK _ W' β' a' rfl R')
theorem RunsL.mono {ops:Array Oper} {l:List Oper} {σ:Sy} {K K':Sy→Prop} (h:RunsL P ops l σ K fk) (hK:∀ s,K s→K' s):RunsL P ops l σ K' fk:=fun Q rest w0 W β a R h2=>h Q rest w0 W β a R (fun s W' β' a' k R'=>h2 s W' β' a' (hK s k) R')
theorem runsL_cat {ops:Array Oper} {l1 l2:List Oper} {σ:Sy} {K1 K:Sy→Prop} (h1:RunsL P ops l1 σ K1 fk) (h2:∀ s,K1 s→RunsL P ops l2 s K fk):RunsL P ops (l1 ++ l2) σ K fk:=fun Q rest w0 W β a R hK=>by
  rw[List.append_assoc]
  exact h1 Q (l2 ++ rest) w0 W β a R (fun s W' β' a' k R'=>h2 s k Q rest w0 W' β' a' R' hK)
def isReg:Code→Bool
  | .region _ _ false=>true
  |_=>false
def oT:Code→Array Oper
  | .region _ o _=>o
  |_=> #[]
theorem runs_region {c:Code} (hr:isReg c=true) {σ:Sy} {K:Sy→Prop} (h:RunsL P (oT c) (oT c).toList σ K fk):Runs P c σ (fun e s=>e= .normal∧K s) fk:=fun Q w0 W β a R hK=>by
  unfold isReg at hr
  split at hr
  · rename_i i o
    refine wp_region_list ?_
    have:=h Q [] w0 W β a R (fun s W' β' a' k R'=>hK .normal s W' β' a' ⟨rfl,k⟩ R')
    rw[List.append_nil] at this
    exact this
  · cases hr
def isApp : Option Oper → Option (TypeId × TypeId × Operand × Operand × Option Tmp)
  | some ⟨d, .call ⟨.builtin .append, xs, ts⟩, _, _, _, none⟩ => (match xs.toList, ts.toList with
    | [x,y],[t,tx]=>if opk x && opk y then some (t,tx,x,y,d) else none
    |_,_=>none)
  |_=>none
theorem app_wp {ops : Array Oper} {o : Oper} {t tx : TypeId} {x y : Operand} {d : Option Tmp} (h : isApp (some o) = some (t, tx, x, y, d)) {Q : Exit → Act → World → Prop} {rest : List Oper} {a : Act} {W W' : World} {v : Value} (hr : ∀ ty, (Builtin.append_ #[t, tx] ty #[a.eval x, a.eval y]).run P W = .ok v W') (hK : wpList P ops Q rest (a.put d v) W') : wpList P ops Q ([o] ++ rest) a W := by
  obtain⟨dst,op,ty,pos,after,guard⟩:=o
  unfold isApp at h
  split at h
  · rename_i d' xs ts ty' pos' after' e
    simp only[Option.some.injEq,Oper.mk.injEq] at e
    obtain⟨rfl,rfl,rfl,rfl,rfl,rfl⟩:=e
    split at h
    · rename_i x' y' t' tx' e1 e2
      have e1:xs= #[x',y']:=Array.ext' (by rw[e1])
      have e2:ts= #[t',tx']:=Array.ext' (by rw[e2])
      subst e1 e2
      split at h
      · simp only [Option.some.injEq, Prod.mk.injEq] at h
        obtain⟨rfl,rfl,rfl,rfl,rfl⟩:=h
        refine wpList_plain rfl fun K hK'=> ?_
        unfold Oper.wp
        simp[execOp,resolve,invoke,builtin,hr,Result.andThen]
        exact hK' _ _ hK
      · cases h
    · cases h
  · cases h
theorem isApp_opk {o : Option Oper} {r : TypeId × TypeId × Operand × Operand × Option Tmp} (h : isApp o = some r) : opk r.2.2.1 = true ∧ opk r.2.2.2.1 = true := by
  unfold isApp at h
  split at h
  · split at h
    · split at h
      · rename_i hk
        simp only[Option.some.injEq] at h
        subst h
        simpa using hk
      · cases h
    · cases h
  · cases h
theorem runsL_app {ops:Array Oper} {o:Oper} {t tx e ex:TypeId} {x y:Operand} {d:Option Tmp} (h:isApp (some o)=some (t,tx,x,y,d)) {q:IntKind} {by':Nat} (T:ApT P t e q by') (hx:P.underlying tx=some (.slice ex)) {tm:List Value} {mem:List Mb} {c:Prop} {ch:List (Option Value)} {i len cap:Nat} {L N:List Int} (hgk:fk / big≤fk%big) (hk:fk%big≤i) (hv:opn tm x= .slice (some ⟨i,0,none⟩) len cap) (hlen:len=L.length) (hm:mem[i]? =some (wA q cap L,e,(0,0))) (hL:L.length≤cap) (hu:SrcOk q mem (opn tm y) N) (hb:2*(L.length+N.length)*by'≤281474976710656) (h63:L.length+N.length≤9223372036854775807):
    RunsL P ops [o] ⟨tm,mem,c,ch⟩ (fun s=>∃ cap' M,L.length+N.length≤cap'∧s=⟨putS (tm.map (al i M)) d (.slice (some ⟨i,0,none⟩) (L.length+N.length) cap'),mem.set i (wA q cap' (L ++ N),e,(0,0)),c,ch⟩) fk:=fun Q rest w0 W β a R hK=>by
  subst hlen
  obtain⟨hkx,hky⟩:=isApp_opk h
  simp only at hkx hky
  have key:∀ ty,_:=fun ty=>app_own (ty:=ty) T hx R hgk hk hm hL hu hb h63
  obtain⟨v,W',β',cap',M,hr,hge,hM,hv',R'⟩:=key 0
  have hil:i<mem.length:=(List.getElem?_eq_some_iff.1 hm).1
  refine app_wp h (v:=v) (W':=W') (fun ty=> ?_) (hK _ W' β' _ ⟨cap',M,hge,rfl⟩ ?_)
  · rw [R.ev hkx, R.ev hky]
    simp only[hv]
    exact hr
  · have := R'.put d (v := .slice (some ⟨i, 0, none⟩) (L.length + N.length) cap') (by simp only [okp, List.length_set]; simp [hil]) c ch
    rw[← hv'] at this
    exact this
theorem runsL_appN {ops:Array Oper} {o:Oper} {t tx e ex:TypeId} {x y:Operand} {d:Option Tmp} (h:isApp (some o)=some (t,tx,x,y,d)) {q:IntKind} {by':Nat} (T:ApT P t e q by') (hx:P.underlying tx=some (.slice ex)) {tm:List Value} {mem:List Mb} {c:Prop} {ch:List (Option Value)} {N:List Int} (hv:opn tm x= .slice none 0 0) (hl:mem.length+1<big) (hu:SrcOk q mem (opn tm y) N) (h0:0<N.length) (hb:2*N.length*by'≤281474976710656) (h63:N.length≤9223372036854775807):
    RunsL P ops [o] ⟨tm,mem,c,ch⟩ (fun s=>∃ cap',N.length≤cap'∧s=⟨putS tm d (.slice (some ⟨mem.length,0,none⟩) N.length cap'),mem ++ [(wA q cap' N,e,(0,0))],c,ch⟩) fk:=fun Q rest w0 W β a R hK=>by
  obtain⟨hkx,hky⟩:=isApp_opk h
  simp only at hkx hky
  obtain⟨v,W',β',cap',hr,hge,R'⟩:=app_nil (ty:=0) T hx R hl hu h0 hb h63 d
  refine app_wp h (v:=v) (W':=W') (fun ty=> ?_) (hK _ W' β' _ ⟨cap',hge,rfl⟩ R')
  rw[R.ev hkx,R.ev hky]
  simp only[hv]
  exact hr
theorem take_split {l:List Oper} {k:Nat} {o:Oper} (h:l[k]? =some o):l=l.take k ++ ([o] ++ l.drop (k+1)):=by
  obtain⟨hk,he⟩:=List.getElem?_eq_some_iff.1 h
  rw[← he]
  simp
theorem runsL_appS {ops:Array Oper} {Ls:List Oper} (k:Nat) {tm tm1:List Value} {mem mem1:List Mb} {c1:Prop} {ch1 ch':List (Option Value)} (h1:evL E ops (Ls.take k) ⟨tm,mem,True,ch1⟩=some ⟨tm1,mem1,c1,ch'⟩) (hc1:c1) {t tx e ex:TypeId} {x y:Operand} {d:Option Tmp} (ha:isApp (Ls[k]?)=some (t,tx,x,y,d)) {q:IntKind} {by':Nat} (T:ApT P t e q by') (hx:P.underlying tx=some (.slice ex)) {i len cap:Nat} {L N:List Int} (hgk:E.fk / big≤E.fk%big) (hk:E.fk%big≤i) (hv:opn tm1 x= .slice (some ⟨i,0,none⟩) len cap) (hlen:len=L.length) (hm:mem1[i]? =some (wA q cap L,e,(0,0))) (hL:L.length≤cap) (hu:SrcOk q mem1 (opn tm1 y) N) (hb:2*(L.length+N.length)*by'≤281474976710656) (h63:L.length+N.length≤9223372036854775807) {K:Sy→Prop} (h2:∀ n cap' M c ch,n=L.length+N.length→n≤cap'→RunsL P ops (Ls.drop (k+1)) ⟨putS (tm1.map (al i M)) d (.slice (some ⟨i,0,none⟩) n cap'),mem1.set i (wA q cap' (L ++ N),e,(0,0)),c,ch⟩ K E.fk) {c0:Prop} {ch0:List (Option Value)}:RunsL P ops Ls ⟨tm,mem,c0,ch0⟩ K E.fk:=by
  obtain⟨o,ho⟩:∃ o,Ls[k]? =some o:=by
    cases h:Ls[k]? with
    |none=>rw[h] at ha;simp[isApp] at ha
    |some o=>exact⟨o,rfl⟩
  rw[ho] at ha
  have e1:=take_split ho
  have main:RunsL P ops (Ls.take k ++ ([o] ++ Ls.drop (k+1))) ⟨tm,mem,c0,ch0⟩ K E.fk:=by
    refine runsL_cat (runsL_ev ch1 h1 hc1) (fun s hs=> ?_)
    subst hs
    refine runsL_cat (runsL_app ha T hx hgk hk hv hlen hm hL hu hb h63) ?_
    rintro s ⟨cap',M,hge,rfl⟩
    exact h2 _ cap' M _ _ rfl hge
  rw[← e1] at main
  exact main
theorem runs_app {c:Code} (hr:isReg c=true) (k:Nat) {tm tm1:List Value} {mem mem1:List Mb} {c1:Prop} {ch1 ch':List (Option Value)} (h1:evL E (oT c) ((oT c).toList.take k) ⟨tm,mem,True,ch1⟩=some ⟨tm1,mem1,c1,ch'⟩) (hc1:c1) {t tx e ex:TypeId} {x y:Operand} {d:Option Tmp} (ha:isApp ((oT c).toList[k]?)=some (t,tx,x,y,d)) {q:IntKind} {by':Nat} (T:ApT P t e q by') (hx:P.underlying tx=some (.slice ex)) {i len cap:Nat} {L N:List Int} (hgk:E.fk / big≤E.fk%big) (hk:E.fk%big≤i) (hv:opn tm1 x= .slice (some ⟨i,0,none⟩) len cap) (hlen:len=L.length) (hm:mem1[i]? =some (wA q cap L,e,(0,0))) (hL:L.length≤cap) (hu:SrcOk q mem1 (opn tm1 y) N) (hb:2*(L.length+N.length)*by'≤281474976710656) (h63:L.length+N.length≤9223372036854775807) (ch2:List (Option Value)) {f2:Nat→Nat→Nat→Sy} (h2:∀ n cap' M,evL E (oT c) ((oT c).toList.drop (k+1)) ⟨putS (tm1.map (al i M)) d (.slice (some ⟨i,0,none⟩) n cap'),mem1.set i (wA q cap' (L ++ N),e,(0,0)),True,ch2⟩=some (f2 n cap' M)) (hc2:∀ n cap' M,n=L.length+N.length→n≤cap'→(f2 n cap' M).c) {c0:Prop} {ch0:List (Option Value)}:Runs P c ⟨tm,mem,c0,ch0⟩ (fun e s=>e= .normal∧∃ n cap' M,n=L.length+N.length∧n≤cap'∧s=f2 n cap' M) E.fk:=by
  refine runs_region hr ?_
  obtain⟨o,ho⟩:∃ o,(oT c).toList[k]? =some o:=by
    cases h:(oT c).toList[k]? with
    |none=>rw[h] at ha;simp[isApp] at ha
    |some o=>exact⟨o,rfl⟩
  rw[ho] at ha
  have e1:=take_split ho
  have main:RunsL P (oT c) ((oT c).toList.take k ++ ([o] ++ (oT c).toList.drop (k+1))) ⟨tm,mem,c0,ch0⟩ (fun s=>∃ n cap' M,n=L.length+N.length∧n≤cap'∧s=f2 n cap' M) E.fk:=by
    refine runsL_cat (runsL_ev ch1 h1 hc1) (fun s hs=> ?_)
    subst hs
    refine runsL_cat (runsL_app ha T hx hgk hk hv hlen hm hL hu hb h63) ?_
    rintro s ⟨cap',M,hge,rfl⟩
    exact(runsL_ev ch2 (h2 (L.length+N.length) cap' M) (hc2 _ cap' M rfl hge)).mono (fun s hs=>⟨_,cap',M,rfl,hge,hs⟩)
  rw[← e1] at main
  exact main
theorem runs_appN {c:Code} (hr:isReg c=true) (k:Nat) {tm tm1:List Value} {mem mem1:List Mb} {c1:Prop} {ch1 ch':List (Option Value)} (h1:evL E (oT c) ((oT c).toList.take k) ⟨tm,mem,True,ch1⟩=some ⟨tm1,mem1,c1,ch'⟩) (hc1:c1) {t tx e ex:TypeId} {x y:Operand} {d:Option Tmp} (ha:isApp ((oT c).toList[k]?)=some (t,tx,x,y,d)) {q:IntKind} {by':Nat} (T:ApT P t e q by') (hx:P.underlying tx=some (.slice ex)) {N:List Int} (hv:opn tm1 x= .slice none 0 0) {i:Nat} (hi:mem1.length=i) (hl:i+1<big) (hu:SrcOk q mem1 (opn tm1 y) N) (h0:0<N.length) (hb:2*N.length*by'≤281474976710656) (h63:N.length≤9223372036854775807) (ch2:List (Option Value)) {f2:Nat→Nat→Sy} (h2:∀ n cap',evL E (oT c) ((oT c).toList.drop (k+1)) ⟨putS tm1 d (.slice (some ⟨i,0,none⟩) n cap'),mem1 ++ [(wA q cap' N,e,(0,0))],True,ch2⟩=some (f2 n cap')) (hc2:∀ n cap',n=N.length→n≤cap'→(f2 n cap').c) {c0:Prop} {ch0:List (Option Value)}:Runs P c ⟨tm,mem,c0,ch0⟩ (fun e s=>e= .normal∧∃ n cap',n=N.length∧n≤cap'∧s=f2 n cap') E.fk:=by
  refine runs_region hr ?_
  obtain⟨o,ho⟩:∃ o,(oT c).toList[k]? =some o:=by
    cases h:(oT c).toList[k]? with
    |none=>rw[h] at ha;simp[isApp] at ha
    |some o=>exact⟨o,rfl⟩
  rw[ho] at ha
  have e1:=take_split ho
  subst hi
  have main:RunsL P (oT c) ((oT c).toList.take k ++ ([o] ++ (oT c).toList.drop (k+1))) ⟨tm,mem,c0,ch0⟩ (fun s=>∃ n cap',n=N.length∧n≤cap'∧s=f2 n cap') E.fk:=by
    refine runsL_cat (runsL_ev ch1 h1 hc1) (fun s hs=> ?_)
    subst hs
    refine runsL_cat (runsL_appN ha T hx hv hl hu h0 hb h63) ?_
    rintro s ⟨cap',hge,rfl⟩
    exact(runsL_ev ch2 (h2 N.length cap') (hc2 _ cap' rfl hge)).mono (fun s hs=>⟨_,cap',rfl,hge,hs⟩)
  rw[← e1] at main
  exact main
def MakesA (P:Program) (f:FuncId) (mem:List Mb) (args:List Value) (q:IntKind) (n:Nat) (L:List Int) (e:TypeId) (ng:Nat:=0):Prop:=∀ w β,Has w β mem→(∀ i,i<ng→β i=i)→Calls P f (args.map (rn β)).toArray w (fun r w'=>∃ b cap,L.length≤cap∧r= .returned (.slice (some ⟨b,0,none⟩) n cap)∧w.heap.size≤b∧w'.heap[b]? =some (.cells (wA q cap L) e (0,0))∧Below w.heap.size w w')
theorem makesA_runs {f:FuncId} {fn:Func} (hf:P.funcs[f]? =some fn) {c:Code} (hb:fn.body=some c) {mem:List Mb} (hk:mem.length=fk%big∧fk / big≤fk%big) {args:List Value} (hn:args.all (okp (fk%big))=true) {q:IntKind} {n:Nat} {L:List Int} {t:TypeId} {r:Nat} (hres:fn.results.toList= [.tmp r]) {K:Exit→Sy→Prop} (h:Runs P c ⟨args ++ List.replicate (fn.ntmps - args.length) undef,mem,True,[]⟩ K fk) (hr:∀ e s,K e s→e= .ret∧∃ i cap,fk%big≤i∧L.length≤cap∧s.tm.getD r undef= .slice (some ⟨i,0,none⟩) n cap∧s.mem[i]? =some (wA q cap L,t,(0,0))):MakesA P f mem args q n L t (fk / big):=fun w β hw hg=>by
  refine calls_of_wp hf hb (h _ w w β _ (start hk.1 (by rw[hk.1];exact List.all_eq_true.1 hn) hw (fun i hi=>⟨by rw[hk.1];exact Nat.lt_of_lt_of_le hi hk.2,hg i hi⟩) (by simp) rfl) (fun e s W' β' a' q R'=> ?_))
  obtain⟨rfl,i,cap,hi,hcap,hs,hm⟩:=hr e s q
  have hx:a'.tmps.getD r undef=_:=R'.ev (x:= .tmp r) rfl
  simp only[opn,hs,rn] at hx
  exact⟨R'.d,one [.slice (some ⟨β' i,0,none⟩) n cap],results_eq (by rw[hres];simp[-Array.getD_eq_getD_getElem?,resOf,hx]),β' i,cap,hcap,rfl,R'.m.own i hi (List.getElem?_eq_some_iff.1 hm).1,R'.m.has i _ hm,R'.m.below⟩
def isCl:Option Oper→Option (FuncId×List Operand×Option Tmp)
  |some ⟨d,.call ⟨.value (.func f),xs,_⟩,_,_,_,none⟩=>if xs.toList.all opk then some (f,xs.toList,d) else none
  |_=>none
theorem runsL_call {ops : Array Oper} {o : Oper} {f : FuncId} {xs : List Operand} {d : Option Tmp} (h : isCl (some o) = some (f, xs, d)) (hf : ∀ args (w : World), (callFunc f args).run P w = .ok (.enter f args) w) {tm : List Value} {mem : List Mb} {c : Prop} {ch : List (Option Value)} {q : IntKind} {n : Nat} {L : List Int} {e : TypeId} (hM : MakesA P f mem (xs.map (opn tm)) q n L e (fk / big)) (hl : mem.length + 1 < big) :
    RunsL P ops [o] ⟨tm,mem,c,ch⟩ (fun s=>∃ cap,L.length≤cap∧s=⟨putS tm d (.slice (some ⟨mem.length,0,none⟩) n cap),mem ++ [(wA q cap L,e,(0,0))],c,ch⟩) fk:=fun Q rest w0 W β a R hK=>by
  obtain⟨dst,op,ty,pos,after,guard⟩:=o
  unfold isCl at h
  split at h
  · rename_i d' f' xs' ts ty' pos' after' e'
    simp only[Option.some.injEq,Oper.mk.injEq] at e'
    obtain⟨rfl,rfl,rfl,rfl,rfl,rfl⟩:=e'
    split at h
    · rename_i hk
      simp only[Option.some.injEq,Prod.mk.injEq] at h
      obtain⟨rfl,rfl,rfl⟩:=h
      have e1:xs'.map a.eval=((xs'.toList.map (opn tm)).map (rn β)).toArray:=by
        rw[List.map_map,← List.map_toArray]
        apply Array.map_congr_left
        intro x hx
        exact R.ev (List.all_eq_true.1 hk x (by simpa using hx))
      have hr:(execOp a.eval ⟨dst,.call ⟨.value (.func f'),xs',ts⟩,ty,pos,after,none⟩).run P W= .ok (.enter f' (xs'.map a.eval)) W:=by
        have h2:=hf
        go_simp
      refine wpList_plain rfl fun K hK'=> ?_
      unfold Oper.wp
      rw[hr,e1,Oper.upon_enter]
      refine(hM W β R.m.has R.v.gl).mono ?_
      rintro r W' ⟨b,cap,hcap,rfl,hb,hcs,hB⟩
      refine hK' _ _ (hK _ W' _ _ ⟨cap,hcap,rfl⟩ (R.newV dst n cap ((R.m.call hB).more hl (Nat.le_trans R.m.below.size hb) (fun i hi=> ?_) hcs) _))
      have:=lt_of_heap (R.m.has i _ (List.getElem?_eq_getElem hi))
      omega
    · cases h
  · cases h
theorem runs_call {c:Code} (hr:isReg c=true) (k:Nat) {tm tm1:List Value} {mem mem1:List Mb} {c1:Prop} {ch1 ch':List (Option Value)} (h1:evL E (oT c) ((oT c).toList.take k) ⟨tm,mem,True,ch1⟩=some ⟨tm1,mem1,c1,ch'⟩) (hc1:c1) {f:FuncId} {xs:List Operand} {d:Option Tmp} (ha:isCl ((oT c).toList[k]?)=some (f,xs,d)) (hf:∀ args (w:World),(callFunc f args).run P w= .ok (.enter f args) w) {args:List Value} (hxs:xs.map (opn tm1)=args) {q:IntKind} {m:Nat} {L:List Int} {e:TypeId} (hM:MakesA P f mem1 args q m L e (E.fk / big)) {i:Nat} (hi:mem1.length=i) (hl:i+1<big) (ch2:List (Option Value)) {f2:Nat→Sy} (h2:∀ cap',evL E (oT c) ((oT c).toList.drop (k+1)) ⟨putS tm1 d (.slice (some ⟨i,0,none⟩) m cap'),mem1 ++ [(wA q cap' L,e,(0,0))],True,ch2⟩=some (f2 cap')) (hc2:∀ cap',L.length≤cap'→(f2 cap').c) {c0:Prop} {ch0:List (Option Value)}:Runs P c ⟨tm,mem,c0,ch0⟩ (fun e s=>e= .normal∧∃ cap',L.length≤cap'∧s=f2 cap') E.fk:=by
  refine runs_region hr ?_
  obtain⟨o,ho⟩:∃ o,(oT c).toList[k]? =some o:=by
    cases h:(oT c).toList[k]? with
    |none=>rw[h] at ha;simp[isCl] at ha
    |some o=>exact⟨o,rfl⟩
  rw[ho] at ha
  have e1:=take_split ho
  subst hi
  have main:RunsL P (oT c) ((oT c).toList.take k ++ ([o] ++ (oT c).toList.drop (k+1))) ⟨tm,mem,c0,ch0⟩ (fun s=>∃ cap',L.length≤cap'∧s=f2 cap') E.fk:=by
    refine runsL_cat (runsL_ev ch1 h1 hc1) (fun s hs=> ?_)
    subst hs
    refine runsL_cat (runsL_call ha hf (by rw[hxs];exact hM) hl) ?_
    rintro s ⟨cap',hge,rfl⟩
    exact(runsL_ev ch2 (h2 cap') (hc2 cap' hge)).mono (fun s hs=>⟨cap',hge,hs⟩)
  rw[← e1] at main
  exact main
def ov (i n M:Nat) (v:Value):Value:=match v with
  | .pointer (some ⟨k,o,none⟩)=>if k=i then .pointer (some ⟨M,o,none⟩) else if k=n then .pointer (some ⟨i,o,none⟩) else v
  | .slice (some ⟨k,o,none⟩) l c=>if k=i then .slice (some ⟨M,o,none⟩) l c else if k=n then .slice (some ⟨i,o,none⟩) l c else v
  |_=>v
theorem ov_rn {β β' : Nat → Nat} {i n M : Nat} (h1 : β' M = β i) (h3 : β' i = β n) (h2 : ∀ k, k ≠ i → k ≠ n → k ≠ M → β' k = β k) {v : Value} (hv : pnum v < M) : rn β' (ov i n M v) = rn β v := by
  cases v with
  | pointer a =>
    cases a with
    |none=>rfl
    | some a =>
      obtain⟨k,o,s⟩:=a
      cases s with
      | none =>
        simp only[pnum] at hv
        simp only[ov]
        split
        · rename_i e;simp only[rn,h1,e]
        · split
          · rename_i e;simp only[rn,h3,e]
          · rename_i e e2;simp only[rn];rw[h2 k e e2 (by omega)]
      |some s=>rfl
  | slice a l c =>
    cases a with
    |none=>rfl
    | some a =>
      obtain⟨k,o,s⟩:=a
      cases s with
      | none =>
        simp only[pnum] at hv
        simp only[ov]
        split
        · rename_i e;simp only[rn,h1,e]
        · split
          · rename_i e;simp only[rn,h3,e]
          · rename_i e e2;simp only[rn];rw[h2 k e e2 (by omega)]
      |some s=>rfl
  |_=>rfl
theorem ov_ok {i n M : Nat} (hM : big ≤ M) (hi : i < n) {v : Value} (h : okp (n + 1) v = true) : okp n (ov i n M v) = true := by
  cases v with
  | pointer a =>
    cases a with
    |none=>simp[okp] at h
    | some a =>
      obtain⟨k,o,s⟩:=a
      cases s with
      | none =>
        simp only[okp,Bool.or_eq_true,decide_eq_true_eq] at h
        simp only[ov]
        split
        · simp only[okp,Bool.or_eq_true,decide_eq_true_eq];omega
        · split
          · simp only[okp,Bool.or_eq_true,decide_eq_true_eq];omega
          · simp only[okp,Bool.or_eq_true,decide_eq_true_eq];omega
      |some s=>simp[okp] at h
  | slice a l c =>
    cases a with
    |none=>rfl
    | some a =>
      obtain⟨k,o,s⟩:=a
      cases s with
      | none =>
        simp only[okp,Bool.or_eq_true,decide_eq_true_eq] at h
        simp only[ov]
        split
        · simp only[okp,Bool.or_eq_true,decide_eq_true_eq];omega
        · split
          · simp only[okp,Bool.or_eq_true,decide_eq_true_eq];omega
          · simp only[okp,Bool.or_eq_true,decide_eq_true_eq];omega
      |some s=>simp[okp] at h
  |_=>rfl
theorem Rl.over {w0 W : World} {β : Nat → Nat} {tm : List Value} {mem : List Mb} {x : Mb} {c : Prop} {ch : List (Option Value)} {a : Act} (R : Rl fk w0 W β ⟨tm, mem ++ [x], c, ch⟩ a) {i : Nat} (hgk : fk / big ≤ fk % big) (hk : fk % big ≤ i) (hi : i < mem.length) : ∃ M β', Rl fk w0 W β' ⟨tm.map (ov i mem.length M), mem.set i x, c, ch⟩ a := by
  obtain⟨M,h1,h2⟩:=pnum_bd tm
  have hlt:mem.length+1<big:=by have:=R.m.lt;simpa using this
  obtain⟨β',hβ⟩:∃ β':Nat→Nat,β'=fun k=>if k=M then β i else if k=i then β mem.length else β k:=⟨_,rfl⟩
  have b1:β' M=β i:=by simp[hβ]
  have iM:i≠M:=by omega
  have b3:β' i=β mem.length:=by simp[hβ,iM]
  have b2:∀ k,k≠i→k≠M→β' k=β k:=fun k h h'=>by simp[hβ,h,h']
  have old:∀ k,k<mem.length→(mem ++ [x])[k]? =mem[k]? :=fun k hk=>List.getElem?_append_left hk
  have lst:(mem ++ [x])[mem.length]? =some x:=by simp
  have own:=R.m.own
  have inj:=R.m.inj
  have has:=R.m.has
  simp only[List.length_append,List.length_singleton] at own inj
  refine⟨M,β',⟨R.m.below,fun k hk' hkl=> ?_,fun k l hk' hkl hll e=> ?_,fun k y hy=> ?_,by simp only[List.length_set];omega,fun k h=>⟨by have:=hgk;simp only[List.length_set];omega,?_⟩⟩,?_,R.d,fun v hv=> ?_⟩
  · simp only [List.length_set] at hkl
    by_cases e:k=i
    · rw[e,b3];exact own mem.length (by omega) (by omega)
    · rw[b2 k e (by omega)];exact own k hk' (by omega)
  · simp only [List.length_set] at hkl hll
    by_cases e1:k=i
    · by_cases e2 : l = i
      · rw[e1,e2]
      · rw [e1, b3, b2 l e2 (by omega)] at e
        have:=inj mem.length l (by omega) (by omega) (by omega) e
        omega
    · by_cases e2 : l = i
      · rw [e2, b3, b2 k e1 (by omega)] at e
        have:=inj k mem.length hk' (by omega) (by omega) e
        omega
      · rw [b2 k e1 (by omega), b2 l e2 (by omega)] at e
        exact inj k l hk' (by omega) (by omega) e
  · have hkl : k < mem.length := by have := (List.getElem?_eq_some_iff.1 hy).1; simpa using this
    by_cases e:k=i
    · subst e
      simp only at hy
      rw[List.getElem?_set_self hi] at hy
      simp only[Option.some.injEq] at hy
      subst hy
      rw[b3]
      exact has _ _ lst
    · simp only at hy
      rw[List.getElem?_set_ne (fun q=>e q.symm)] at hy
      rw[b2 k e (by omega)]
      exact has k y (by simp only;rw[old k hkl];exact hy)
  · rw[b2 k (by omega) (by omega)];exact(R.m.gl k h).2
  · rw [R.t, List.map_map]
    congr 1
    exact List.map_congr_left fun v hv=>(ov_rn b1 b3 (fun k p1 _ p3=>b2 k p1 p3) (h2 v hv)).symm
  · obtain ⟨u, hu, rfl⟩ := List.mem_map.1 hv
    simp only[List.length_set]
    have:=R.ok u hu
    simp only[List.length_append,List.length_singleton] at this
    exact ov_ok h1 hi this
theorem Runs.over {c:Code} {σ:Sy} {K1 K:Exit→Sy→Prop} (h:Runs P c σ K1 fk) (hgk:fk / big≤fk%big) (hK:∀ e s,K1 e s→∃ mem x i,s.mem=mem ++ [x]∧fk%big≤i∧i<mem.length∧∀ M,K e ⟨s.tm.map (ov i mem.length M),mem.set i x,s.c,s.ch⟩):Runs P c σ K fk:=fun Q w0 W β a R h2=>
  h Q w0 W β a R (fun e s W' β' a' k R' => by
    obtain⟨mem,x,i,hm,hi,hl,hk⟩:=hK e s k
    obtain⟨tm,m,q,ch⟩:=s
    simp only at hm
    subst hm
    obtain⟨M,β2,R2⟩:=R'.over hgk hi hl
    exact h2 e _ W' β2 a' (hk M) R2)
end
end Go.Ev

set_option linter.unusedSimpArgs false
set_option linter.unusedVariables false
/-! Append to a row of one's own where there is room: it stays where it is. -/
namespace Go.Ev
open Go.RowKit Go.Calm Go.Proofs.Ytnadkbniljejfaa
section
variable {P:Program} {E:En P} {fk:Nat}
end
end Go.Ev

set_option linter.unusedSimpArgs false
set_option linter.unusedVariables false
/-! A region with several calls that answer new slices. -/
namespace Go.Ev
open Go.RowKit Go.Calm Go.Proofs.Ytnadkbniljejfaa
section
variable {P:Program} {E:En P}
end
end Go.Ev

set_option linter.unusedSimpArgs false
set_option linter.unusedVariables false
/-! Calls whose answer is not told: a function value, or nothing. -/
namespace Go.Ev
open Go.RowKit Go.Calm Go.Proofs.Ytnadkbniljejfaa
section
variable {P:Program} {E:En P} {fk:Nat}
theorem evSr_ok {ops : Array Oper} {w0 : World} {m : List Mb} {γ : Nat → Nat} {keep : List Nat} {rest : List (Nat × Bool)} : ∀ (π : List (Nat × Bool)) (σ σ' : Sy), evS E ops keep π σ = some σ' → σ'.c → (∀ i ∈ keep, i < m.length) → m.length ≤ σ.mem.length → (∀ i ∈ keep, σ.mem[i]? = m[i]?) → σ.c ∧ ∀ {Q : Exit → Act → World → Prop} {W : World} {β : Nat → Nat} {a : Act}, (∀ i, i < m.length → β i = γ i) → Rl E.fk w0 W β σ a → ((∀ i ∈ keep, σ'.mem[i]? = m[i]?) → m.length ≤ σ'.mem.length → ∀ W' β' a', (∀ i, i < m.length → β' i = γ i) → Rl E.fk w0 W' β' σ' a' → walkH P ops Q (KeptAt γ m keep) rest a' W') → walkH P ops Q (KeptAt γ m keep) (π ++ rest) a W
  | [], σ, σ', h, hc, _, hl, hm => by
    simp only[evS,Option.some.injEq] at h
    subst h
    exact⟨hc,fun hg R hK=>hK hm hl _ _ _ hg R⟩
  | (i, b) :: r, σ, σ', h, hc, hkl, hl, hm => by
    unfold evS at h
    split at h
    · rename_i o ho
      split at h
      · rename_i hw
        split at h
        · rename_i hb
          split at h
          · rename_i hlk
            simp only[Bool.and_eq_true,Bool.not_eq_true'] at hlk
            split at h
            · rename_i σ1 hq
              have e1:=quS_mem hq
              obtain⟨h1,h2⟩:=evSr_ok (rest:=rest) (w0:=w0) (γ:=γ) r σ1 σ' h hc hkl (by rw[e1];exact hl) (by rw[e1];exact hm)
              refine⟨(quS_allL (β:=fun i=>i) hq h1).1,fun {Q W β a} hg R hK=> ?_⟩
              obtain⟨_,v,h4,_,h5⟩:=quS_allL (β:=β) hq h1
              subst hb
              refine⟨o,v,ho,.inl ⟨by rw[yielded_eq R];exact hw,fun W2 hM=> ?_⟩,h2 hg (h4 w0 W a R) hK⟩
              have hL : LoadsAt W2 β σ o.op := by
                refine⟨fun t x j off y e he hy=> ?_,fun q=> ?_,fun s d x j off l c y e he hy=> ?_⟩
                · have hin := hlk.2
                  simp only[loadIn,e,he,List.contains_eq_mem,decide_eq_true_eq] at hin
                  have:=hM j hin y (by rw[← hm j hin];exact hy)
                  rw[hg j (hkl j hin)]
                  exact this
                · rw[q] at hlk;cases hlk.1
                · have hin := hlk.2
                  simp only[loadIn,e,he,List.contains_eq_mem,decide_eq_true_eq] at hin
                  have:=hM j hin y (by rw[← hm j hin];exact hy)
                  rw[hg j (hkl j hin)]
                  exact this
              rcases h5 W2 a R.v.rt hL with h6|⟨h6,_⟩
              · exact h6
              · rw[h6] at hlk;cases hlk.1
            · cases h
          · cases h
        · rename_i hb
          have hb':b=false:=by simpa using hb
          subst hb'
          split at h
          · rename_i hso
            split at h
            · rename_i σ1 hs
              obtain⟨q1,q2⟩:=outK_mem hso (fun i hi=>Nat.lt_of_lt_of_le (hkl i hi) hl) hs
              have hm1:∀ i ∈ keep,σ1.mem[i]? =m[i]? :=fun i hi=>by rw[q2 i hi];exact hm i hi
              obtain⟨h1,h2⟩:=evSr_ok (rest:=rest) (w0:=w0) (γ:=γ) r σ1 σ' h hc hkl (Nat.le_trans hl q1) hm1
              obtain⟨h3,h4⟩:=stK_wp hs h1
              refine⟨h3,fun {Q W β a} hg R hK=>wh_only ho (by rw[yielded_eq R];exact hw) (h4 R (fun W' β' a' R' hβ=> ?_))⟩
              have hg':∀ i,i<m.length→β' i=γ i:=fun i hi=>by rw[hβ i (by omega)];exact hg i hi
              refine⟨fun k hk y hy=> ?_,h2 hg' R' hK⟩
              have:=R'.m.has k y (by rw[hm1 k hk];exact hy)
              rw[hg' k (hkl k hk)] at this
              exact this
            · cases h
          · cases h
      · rename_i hw
        split at h
        · rename_i hb
          obtain⟨h1,h2⟩:=evSr_ok (rest:=rest) (w0:=w0) (γ:=γ) r (offS σ o) σ' h hc hkl hl hm
          subst hb
          exact⟨h1,fun {Q W β a} hg R hK=>⟨o,undef,ho,.inr ⟨by rw[yielded_eq R];simpa using hw,rfl⟩,h2 hg (R.off o) hK⟩⟩
        · cases h
    · cases h
def Hides (P:Program) (f:FuncId) (mem:List Mb) (args:List Value) (G:Value→Prop) (ng:Nat:=0):Prop:=∀ w β,Has w β mem→(∀ i,i<ng→β i=i)→Calls P f (args.map (rn β)).toArray w (fun r w'=>∃ v,np v=true∧G v∧r= .returned v∧Below w.heap.size w w')
theorem isCl_none {o:Oper} {r:FuncId×List Operand×Option Tmp} (h:isCl (some o)=some r):o.guard=none:=by
  obtain⟨dst,op,ty,pos,after,guard⟩:=o
  unfold isCl at h
  split at h
  · rename_i e
    simp only[Option.some.injEq,Oper.mk.injEq] at e
    exact e.2.2.2.2.2
  · cases h
theorem isCl_w {o:Oper} {r:FuncId×List Operand×Option Tmp} (h:isCl (some o)=some r) {y:Nat→Option Bool}:Region.wanted o y=true:=by
  simp only[Region.wanted,isCl_none h]
theorem callH_wp {o : Oper} {f : FuncId} {xs : List Operand} {d : Option Tmp} (h : isCl (some o) = some (f, xs, d)) (hf : ∀ args (w : World), (callFunc f args).run P w = .ok (.enter f args) w) {tm : List Value} {mem : List Mb} {c : Prop} {ch : List (Option Value)} {G : Value → Prop} (hM : Hides P f mem (xs.map (opn tm)) G (fk / big)) {Q : Exit → Act → World → Prop} {K : Act → World → Prop} {w0 W : World} {β : Nat → Nat} {a : Act} (R : Rl fk w0 W β ⟨tm, mem, c, ch⟩ a) (hK : ∀ v W' a', np v = true → G v → Rl fk w0 W' β ⟨putS tm d v, mem, c, ch⟩ a' → K a' W') : o.wp P a W K Q := by
  obtain⟨dst,op,ty,pos,after,guard⟩:=o
  unfold isCl at h
  split at h
  · rename_i d' f' xs' ts ty' pos' after' e'
    simp only[Option.some.injEq,Oper.mk.injEq] at e'
    obtain⟨rfl,rfl,rfl,rfl,rfl,rfl⟩:=e'
    split at h
    · rename_i hk
      simp only[Option.some.injEq,Prod.mk.injEq] at h
      obtain⟨rfl,rfl,rfl⟩:=h
      have e1:xs'.map a.eval=((xs'.toList.map (opn tm)).map (rn β)).toArray:=by
        rw[List.map_map,← List.map_toArray]
        apply Array.map_congr_left
        intro x hx
        exact R.ev (List.all_eq_true.1 hk x (by simpa using hx))
      have hr:(execOp a.eval ⟨dst,.call ⟨.value (.func f'),xs',ts⟩,ty,pos,after,none⟩).run P W= .ok (.enter f' (xs'.map a.eval)) W:=by
        have h2:=hf
        go_simp
      unfold Oper.wp
      rw[hr,e1,Oper.upon_enter]
      refine(hM W β R.m.has R.v.gl).mono ?_
      rintro r W' ⟨v,hv,hG,rfl,hB⟩
      have R1:Rl fk w0 W' β ⟨tm,mem,c,ch⟩ a:=⟨R.m.call hB,R.t,R.d,R.ok⟩
      have R2:=R1.put dst (v:=v) (okp_np hv) c ch
      rw[rn_np hv] at R2
      exact hK v W' _ hv hG R2
    · cases h
  · cases h
theorem runsL_callH {ops:Array Oper} {o:Oper} {f:FuncId} {xs:List Operand} {d:Option Tmp} (h:isCl (some o)=some (f,xs,d)) (hf:∀ args (w:World),(callFunc f args).run P w= .ok (.enter f args) w) {tm:List Value} {mem:List Mb} {c:Prop} {ch:List (Option Value)} {G:Value→Prop} (hM:Hides P f mem (xs.map (opn tm)) G (fk / big)):RunsL P ops [o] ⟨tm,mem,c,ch⟩ (fun s=>∃ v,np v=true∧G v∧s=⟨putS tm d v,mem,c,ch⟩) fk:=fun Q rest w0 W β a R hK=>by
  exact wpList_plain (isCl_none h) fun K hK'=>callH_wp h hf hM R (fun v W' a' hv hG R'=>hK' _ _ (hK _ W' β a' ⟨v,hv,hG,rfl⟩ R'))
def isRegD:Code→Bool
  | .region _ _ true=>true
  |_=>false
theorem runs_drawH (hm : P.follows .mixedOrders = true) {c : Code} (hr : isRegD c = true) {keep : List Nat} {π : List (Nat × Bool)} {i1 i2 : Nat} {tm tm1 : List Value} {mem mem1 : List Mb} {c1 : Prop} {ch1 ch' : List (Option Value)} (hB : (Region.noSelect (oT c) && decide ((π ++ [(i1, false), (i2, false)]).length = (oT c).size) && schedB .any (oT c) (π ++ [(i1, false), (i2, false)]) (Array.replicate (oT c).size false) && keep.all (fun i => decide (i < mem.length))) = true) (h1 : evS E (oT c) keep π ⟨tm, mem, True, ch1⟩ = some ⟨tm1, mem1, c1, ch'⟩) (hc1 : c1)
    {f1 f2:FuncId} {xs1 xs2:List Operand} {d1 d2:Option Tmp} (ha1:isCl ((oT c)[i1]?)=some (f1,xs1,d1)) (hf1:∀ args (w:World),(callFunc f1 args).run P w= .ok (.enter f1 args) w) (ha2:isCl ((oT c)[i2]?)=some (f2,xs2,d2)) (hf2:∀ args (w:World),(callFunc f2 args).run P w= .ok (.enter f2 args) w) {G1 G2:Value→Prop} (hM1:Hides P f1 mem1 (xs1.map (opn tm1)) G1 (E.fk / big)) (hM2:∀ v,np v=true→G1 v→Hides P f2 mem1 (xs2.map (opn (putS tm1 d1 v))) G2 (E.fk / big)) {c0:Prop} {ch0:List (Option Value)}:
    Runs P c ⟨tm,mem,c0,ch0⟩ (fun e s=>e= .normal∧∃ v1 v2,np v1=true∧G1 v1∧np v2=true∧G2 v2∧s=⟨putS (putS tm1 d1 v1) d2 v2,mem1,c1,ch'⟩) E.fk:=fun Q w0 W β a R0 hK=>by
  have R:=R0.re True ch1
  obtain⟨o1,ho1⟩:∃ o,(oT c)[i1]? =some o:=by
    cases h:(oT c)[i1]? with
    |none=>rw[h] at ha1;simp[isCl] at ha1
    |some o=>exact⟨o,rfl⟩
  obtain⟨o2,ho2⟩:∃ o,(oT c)[i2]? =some o:=by
    cases h:(oT c)[i2]? with
    |none=>rw[h] at ha2;simp[isCl] at ha2
    |some o=>exact⟨o,rfl⟩
  rw[ho1] at ha1
  rw[ho2] at ha2
  unfold isRegD at hr
  split at hr
  · rename_i id ops
    simp only[oT] at*
    simp only[Bool.and_eq_true,decide_eq_true_eq] at hB
    obtain⟨⟨⟨hs,hl⟩,hsc⟩,hkp⟩:=hB
    have hkl:∀ i ∈ keep,i<mem.length:=fun i hi=>by
      have:=List.all_eq_true.1 hkp i hi
      simpa using this
    refine Code.wp_mono (Q:=fun e a' W'=>e= .normal∧∃ v1 v2 β',np v1=true∧G1 v1∧np v2=true∧G2 v2∧Rl E.fk w0 W' β' ⟨putS (putS tm1 d1 v1) d2 v2,mem1,c1,ch'⟩ a') (fun e a' W' ⟨he,v1,v2,β',h1,h2,h3,h4,R'⟩=>by subst he;exact hK _ _ _ _ _ ⟨rfl,v1,v2,h1,h2,h3,h4,rfl⟩ R') ?_
    refine wp_region_any hm (wpAny_of_held (S:=KeptAt β mem keep) _ _ _ _ ?_)
    have:=wpAnyH_of_sched (P:=P) (Q:=fun(e:Exit) (a':Act) (W':World)=>e= .normal∧∃ v1 v2 β',np v1=true∧G1 v1∧np v2=true∧G2 v2∧Rl E.fk w0 W' β' ⟨putS (putS tm1 d1 v1) d2 v2,mem1,c1,ch'⟩ a') (SS:=KeptAt β mem keep) (md:= .any) hs (fun c a d v w h=>by cases h.1) (π ++ [(i1,false),(i2,false)]) _ a W.drew hsc (fun k _ y hy=>R.m.has k y hy) ((evSr_ok (m:=mem) (γ:=β) (rest:= [(i1,false),(i2,false)]) π ⟨tm,mem,True,ch1⟩ _ h1 hc1 hkl (Nat.le_refl _) (fun _ _=>rfl)).2 (fun _ _=>rfl) ⟨R.m.drew,R.t,R.d,R.ok⟩ (fun hk2 hl2 W1 β1 a1 hg R1=> ?_))
    · rw [of_decide_eq_true hl] at this
      exact this
    · have kept : ∀ (W' : World) {tm' : List Value} {a' : Act}, Rl E.fk w0 W' β1 ⟨tm', mem1, c1, ch'⟩ a' → KeptAt β mem keep W' := fun W' tm' a' R' k hk y hy => by
        have:=R'.m.has k y (by rw[← hy];exact hk2 k hk)
        rw[hg k (hkl k hk)] at this
        exact this
      have w1:=callH_wp (Q:=fun(e:Exit) (a':Act) (W':World)=>e= .normal∧∃ v1 v2 β',np v1=true∧G1 v1∧np v2=true∧G2 v2∧Rl E.fk w0 W' β' ⟨putS (putS tm1 d1 v1) d2 v2,mem1,c1,ch'⟩ a') (K:=fun a' W'=>KeptAt β mem keep W'∧walkH P ops (fun(e:Exit) (a':Act) (W':World)=>e= .normal∧∃ v1 v2 β',np v1=true∧G1 v1∧np v2=true∧G2 v2∧Rl E.fk w0 W' β' ⟨putS (putS tm1 d1 v1) d2 v2,mem1,c1,ch'⟩ a') (KeptAt β mem keep) [(i2,false)] a' W') ha1 hf1 hM1 R1 (fun v W' a' hv hG R'=>⟨kept W' R',?_⟩)
      · exact wh_only ho1 (isCl_w ha1) w1
      · have w2 := callH_wp (Q := fun (e : Exit) (a' : Act) (W' : World) => e = .normal ∧ ∃ v1 v2 β', np v1 = true ∧ G1 v1 ∧ np v2 = true ∧ G2 v2 ∧ Rl E.fk w0 W' β' ⟨putS (putS tm1 d1 v1) d2 v2, mem1, c1, ch'⟩ a') (K := fun a' W' => KeptAt β mem keep W' ∧ walkH P ops (fun (e : Exit) (a' : Act) (W' : World) => e = .normal ∧ ∃ v1 v2 β', np v1 = true ∧ G1 v1 ∧ np v2 = true ∧ G2 v2 ∧ Rl E.fk w0 W' β' ⟨putS (putS tm1 d1 v1) d2 v2, mem1, c1, ch'⟩ a') (KeptAt β mem keep) [] a' W') ha2 hf2 (hM2 v hv hG) R' (fun v2 W2 a2 hv2 hG2 R2 => ⟨kept W2 R2, rfl, v, v2, β1, hv, hG, hv2, hG2, R2⟩)
        exact wh_only ho2 (isCl_w ha2) w2
  · cases hr
def isFn:Option Oper→Option (Option Tmp)
  |some ⟨d,.makeFunc (.func _) _ _,_,_,_,none⟩=>some d
  |_=>none
theorem runsL_fn {ops:Array Oper} {o:Oper} {d:Option Tmp} (h:isFn (some o)=some d) {tm:List Value} {mem:List Mb} {c:Prop} {ch:List (Option Value)}:RunsL P ops [o] ⟨tm,mem,c,ch⟩ (fun s=>∃ f x y,s=⟨putS tm d (.func f x y),mem,c,ch⟩) fk:=fun Q rest w0 W β a R hK=>by
  obtain⟨dst,op,ty,pos,after,guard⟩:=o
  unfold isFn at h
  split at h
  · rename_i d' f fi ca ty' pos' after' e
    simp only[Option.some.injEq,Oper.mk.injEq] at e
    obtain⟨rfl,rfl,rfl,rfl,rfl,rfl⟩:=e
    simp only[Option.some.injEq] at h
    subst h
    refine wpList_plain rfl fun K hK'=> ?_
    have hr:(execOp a.eval ⟨dst,.makeFunc (.func f) fi ca,ty,pos,after,none⟩).run P W= .ok (.value (.func (.func f) (fi.map a.eval) (ca.map a.eval))) W:=by
      simp[execOp,Instr.makeFunc]
    unfold Oper.wp
    rw[hr]
    refine hK' _ _ (hK ⟨putS tm dst (.func (.func f) (fi.map a.eval) (ca.map a.eval)),mem,c,ch⟩ W β _ ⟨_,_,_,rfl⟩ ?_)
    exact R.put dst (v:= .func (.func f) (fi.map a.eval) (ca.map a.eval)) rfl c ch
  · cases h
theorem hides_runs {f:FuncId} {fn:Func} (hf:P.funcs[f]? =some fn) {c:Code} (hb:fn.body=some c) {mem:List Mb} (hk:mem.length=fk%big∧fk / big≤fk%big) {args:List Value} (hn:args.all (okp (fk%big))=true) {G:Value→Prop} {r:Nat} (hres:fn.results.toList= [.tmp r]) {K:Exit→Sy→Prop} (h:Runs P c ⟨args ++ List.replicate (fn.ntmps - args.length) undef,mem,True,[]⟩ K fk) (hr:∀ e s,K e s→e= .ret∧np (s.tm.getD r undef)=true∧G (s.tm.getD r undef)):Hides P f mem args G (fk / big):=fun w β hw hg=>by
  refine calls_of_wp hf hb (h _ w w β _ (start hk.1 (by rw[hk.1];exact List.all_eq_true.1 hn) hw (fun i hi=>⟨by rw[hk.1];exact Nat.lt_of_lt_of_le hi hk.2,hg i hi⟩) (by simp) rfl) (fun e s W' β' a' q R'=> ?_))
  obtain⟨rfl,hv,hG⟩:=hr e s q
  have hx:a'.tmps.getD r undef=_:=R'.evn (x:= .tmp r) rfl hv
  simp only[opn] at hx
  exact⟨R'.d,one [s.tm.getD r undef],results_eq (by rw[hres];simp[-Array.getD_eq_getD_getElem?,resOf,hx]),_,hv,hG,rfl,R'.m.below⟩
theorem reads_runs0 (E:En P) {f:FuncId} {fn:Func} (hf:P.funcs[f]? =some fn) {c:Code} (hb:fn.body=some c) {mem:List Mb} (hk:mem.length=fk%big∧fk / big≤fk%big) {args:List Value} (hn:args.all (okp (fk%big))=true) (hres:fn.results.toList= []) {K:Exit→Sy→Prop} (h:Runs P c ⟨args ++ List.replicate (fn.ntmps - args.length) undef,mem,True,[]⟩ K fk) (hr:∀ e s,K e s→e= .normal):Reads P f mem args (.tuple #[]) (fk / big):=fun w β hw hg=>by
  refine calls_of_wp hf hb (h _ w w β _ (start hk.1 (by rw[hk.1];exact List.all_eq_true.1 hn) hw (fun i hi=>⟨by rw[hk.1];exact Nat.lt_of_lt_of_le hi hk.2,hg i hi⟩) (by simp) rfl) (fun e s W' β' a' k R'=> ?_))
  obtain rfl:=hr e s k
  exact⟨R'.d,one [],results_eq (resS_ok (E:=E) R' _ _ (by rw[hres];rfl)),rfl,R'.m.below⟩
theorem hides_far {f:FuncId} {mem:List Mb} {args:List Value} {ng:Nat} {r:Value} (hn:np r=true) (ha:args.all (okp mem.length)=true) (h:∀ M,big≤M→(∀ v ∈ args,pnum v<M)→Reads P f [] (args.map (dn 0 M)) r):Hides P f mem args (fun v=>v=r) ng:=fun w β hw hg=>by
  obtain⟨M,h1,h2⟩:=pnum_bd args
  have:=h M h1 h2 w (fun i=>if M≤i then β (i - M) else β i) (fun i x hx=>by simp at hx) (fun i hi=>by omega)
  rw[List.map_map] at this
  have e:(args.map (rn (fun i=>if M≤i then β (i - M) else β i) ∘ dn 0 M))=args.map (rn β):=List.map_congr_left fun v hv=>dn_rn (Nat.zero_le M) (h2 v hv)
  rw[e] at this
  refine this.mono ?_
  rintro e w' ⟨rfl,hB⟩
  exact⟨r,hn,rfl,rfl,hB⟩
def MakesT (P:Program) (f:FuncId) (mem:List Mb) (args:List Value) (q:IntKind) (n:Nat) (L:List Int) (e:TypeId) (v:Value) (ng:Nat:=0):Prop:=∀ w β,Has w β mem→(∀ i,i<ng→β i=i)→Calls P f (args.map (rn β)).toArray w (fun r w'=>∃ b cap,L.length≤cap∧r= .returned (.tuple #[.slice (some ⟨b,0,none⟩) n cap,v])∧w.heap.size≤b∧w'.heap[b]? =some (.cells (wA q cap L) e (0,0))∧Below w.heap.size w w')
theorem makesT_runs {f:FuncId} {fn:Func} (hf:P.funcs[f]? =some fn) {c:Code} (hb:fn.body=some c) {mem:List Mb} (hk:mem.length=fk%big∧fk / big≤fk%big) {args:List Value} (hn:args.all (okp (fk%big))=true) {q:IntKind} {n:Nat} {L:List Int} {t:TypeId} {v:Value} {r r2:Nat} (hres:fn.results.toList= [.tmp r,.tmp r2]) {K:Exit→Sy→Prop} (h:Runs P c ⟨args ++ List.replicate (fn.ntmps - args.length) undef,mem,True,[]⟩ K fk) (hr:∀ e s,K e s→e= .ret∧np v=true∧s.tm.getD r2 undef=v∧∃ i cap,fk%big≤i∧L.length≤cap∧s.tm.getD r undef= .slice (some ⟨i,0,none⟩) n cap∧s.mem[i]? =some (wA q cap L,t,(0,0))):MakesT P f mem args q n L t v (fk / big):=fun w β hw hg=>by
  refine calls_of_wp hf hb (h _ w w β _ (start hk.1 (by rw[hk.1];exact List.all_eq_true.1 hn) hw (fun i hi=>⟨by rw[hk.1];exact Nat.lt_of_lt_of_le hi hk.2,hg i hi⟩) (by simp) rfl) (fun e s W' β' a' q R'=> ?_))
  obtain⟨rfl,hv,h2,i,cap,hi,hcap,hs,hm⟩:=hr e s q
  have hx:a'.tmps.getD r undef=_:=R'.ev (x:= .tmp r) rfl
  simp only[opn,hs,rn] at hx
  have hy:a'.tmps.getD r2 undef=_:=R'.evn (x:= .tmp r2) rfl (by simp only[opn];rw[h2];exact hv)
  simp only[opn,h2] at hy
  exact⟨R'.d,one [.slice (some ⟨β' i,0,none⟩) n cap,v],results_eq (by rw[hres];simp[-Array.getD_eq_getD_getElem?,resOf,hx,hy]),β' i,cap,hcap,rfl,R'.m.own i hi (List.getElem?_eq_some_iff.1 hm).1,R'.m.has i _ hm,R'.m.below⟩
def isMv:Option Oper→Option (Nat×Nat)
  |some ⟨some d,.move (.tmp x),_,_,_,none⟩=>some (x,d)
  |_=>none
def isEx:Option Oper→Option (Nat×Nat×Nat)
  |some ⟨some d,.extract (.tmp x) i,_,_,_,none⟩=>some (x,i,d)
  |_=>none
theorem runsL_callT {ops : Array Oper} {o0 o1 o2 : Oper} {f : FuncId} {xs : List Operand} {d0 d1 d2 : Nat} (h0 : isCl (some o0) = some (f, xs, some d0)) (h1 : isMv (some o1) = some (d0, d1)) (h2 : isEx (some o2) = some (d1, 0, d2)) (hf : ∀ args (w : World), (callFunc f args).run P w = .ok (.enter f args) w) {tm : List Value} {mem : List Mb} {c : Prop} {ch : List (Option Value)} {q : IntKind} {n : Nat} {L : List Int} {e : TypeId} {v : Value} (hM : MakesT P f mem (xs.map (opn tm)) q n L e v (fk / big)) (hl : mem.length + 1 < big) (hd : d0 < tm.length ∧ d1 < tm.length) :
    RunsL P ops [o0,o1,o2] ⟨tm,mem,c,ch⟩ (fun s=>∃ b cap,L.length≤cap∧s=⟨((tm.set d0 (.tuple #[.slice (some ⟨b,0,none⟩) n cap,v])).set d1 (.tuple #[.slice (some ⟨b,0,none⟩) n cap,v])).set d2 (.slice (some ⟨mem.length,0,none⟩) n cap),mem ++ [(wA q cap L,e,(0,0))],c,ch⟩) fk:=fun Q rest w0 W β a R hK=>by
  obtain⟨dst,op,ty,pos,after,guard⟩:=o0
  unfold isCl at h0
  split at h0
  · rename_i d' f' xs' ts ty' pos' after' e'
    simp only[Option.some.injEq,Oper.mk.injEq] at e'
    obtain⟨rfl,rfl,rfl,rfl,rfl,rfl⟩:=e'
    split at h0
    · rename_i hk
      simp only[Option.some.injEq,Prod.mk.injEq] at h0
      obtain⟨rfl,rfl,rfl⟩:=h0
      have e1:xs'.map a.eval=((xs'.toList.map (opn tm)).map (rn β)).toArray:=by
        rw[List.map_map,← List.map_toArray]
        apply Array.map_congr_left
        intro x hx
        exact R.ev (List.all_eq_true.1 hk x (by simpa using hx))
      have hr:(execOp a.eval ⟨some d0,.call ⟨.value (.func f'),xs',ts⟩,ty,pos,after,none⟩).run P W= .ok (.enter f' (xs'.map a.eval)) W:=by
        have h2:=hf
        go_simp
      refine wpList_plain rfl fun K hK'=> ?_
      unfold Oper.wp
      rw[hr,e1,Oper.upon_enter]
      refine(hM W β R.m.has R.v.gl).mono ?_
      rintro r W' ⟨b,cap,hcap,rfl,hb,hcs,hB⟩
      refine hK' _ _ ?_
      have R1:Rl fk w0 W' (upd β mem.length b) ⟨tm,mem ++ [(wA q cap L,e,(0,0))],c,ch⟩ a:=R.newV none n cap ((R.m.call hB).more hl (Nat.le_trans R.m.below.size hb) (fun i hi=>by
        have:=lt_of_heap (R.m.has i _ (List.getElem?_eq_getElem hi))
        omega) hcs) c
      have R2:=R1.put (some d0) (v:= .tuple #[.slice (some ⟨b,0,none⟩) n cap,v]) rfl c ch
      simp only[putS] at R2
      obtain⟨dst1,op1,ty1,pos1,after1,guard1⟩:=o1
      unfold isMv at h1
      split at h1
      · rename_i d1' x1 ty1' pos1' after1' e1'
        simp only[Option.some.injEq,Oper.mk.injEq] at e1'
        obtain⟨rfl,rfl,rfl,rfl,rfl,rfl⟩:=e1'
        simp only[Option.some.injEq,Prod.mk.injEq] at h1
        obtain⟨rfl,rfl⟩:=h1
        refine wpList_plain rfl fun K hK'=> ?_
        have ev1:=R2.ev (x:= .tmp x1) rfl
        simp only[opn,List.getD_eq_getElem?_getD,List.getElem?_set_self hd.1,Option.getD_some] at ev1
        have hr1:(execOp (Act.eval (a.put (some x1) (rn (upd β mem.length b) (.tuple #[.slice (some ⟨b,0,none⟩) n cap,v])))) ⟨some d1',.move (.tmp x1),ty1,pos1,after1,none⟩).run P W'= .ok (.value (rn (upd β mem.length b) (.tuple #[.slice (some ⟨b,0,none⟩) n cap,v]))) W':=by
          show Result.ok (Next.value (Act.eval (a.put (some x1) (rn (upd β mem.length b) (.tuple #[.slice (some ⟨b,0,none⟩) n cap,v]))) (.tmp x1))) W'=_
          rw[ev1]
        unfold Oper.wp
        erw [hr1]
        refine hK' _ _ ?_
        have R3:=R2.put (some d1') (v:= .tuple #[.slice (some ⟨b,0,none⟩) n cap,v]) rfl c ch
        simp only[putS] at R3
        obtain⟨dst2,op2,ty2,pos2,after2,guard2⟩:=o2
        unfold isEx at h2
        split at h2
        · rename_i d2' x2 i2 ty2' pos2' after2' e2'
          simp only[Option.some.injEq,Oper.mk.injEq] at e2'
          obtain⟨rfl,rfl,rfl,rfl,rfl,rfl⟩:=e2'
          simp only[Option.some.injEq,Prod.mk.injEq] at h2
          obtain⟨rfl,rfl,rfl⟩:=h2
          refine wpList_plain rfl fun K hK'=> ?_
          have ev2:=R3.evn (x:= .tmp x2) rfl (by simp only[opn,List.getD_eq_getElem?_getD];rw[List.getElem?_set_self (by simpa using hd.2)];rfl)
          simp only[opn,List.getD_eq_getElem?_getD] at ev2
          rw[List.getElem?_set_self (by simpa using hd.2)] at ev2
          simp only[Option.getD_some] at ev2
          unfold Oper.wp
          have R4:=R3.put (some d2') (v:= .slice (some ⟨mem.length,0,none⟩) n cap) (by simp[Go.Ev.okp]) c ch
          simp only[putS,rn,upd_new] at R4
          simp only[rn] at ev2
          simp only[execOp,rn,ev2,Instr.extract,Sem.run_bind,Sem.run_pure,Result.andThen_ok]
          exact hK' _ _ (hK _ _ _ _ ⟨b,cap,hcap,rfl⟩ R4)
        · cases h2
      · cases h1
    · cases h0
  · cases h0
theorem runsL_fnS {ops:Array Oper} {Ls:List Oper} (k:Nat) {tm tm1:List Value} {mem mem1:List Mb} {c1:Prop} {ch1 ch':List (Option Value)} (h1:evL E ops (Ls.take k) ⟨tm,mem,True,ch1⟩=some ⟨tm1,mem1,c1,ch'⟩) (hc1:c1) {d:Option Tmp} (ha:isFn (Ls[k]?)=some d) {K:Sy→Prop} (h2:∀ f x y c ch,RunsL P ops (Ls.drop (k+1)) ⟨putS tm1 d (.func f x y),mem1,c,ch⟩ K E.fk) {c0:Prop} {ch0:List (Option Value)}:RunsL P ops Ls ⟨tm,mem,c0,ch0⟩ K E.fk:=by
  obtain⟨o,ho⟩:∃ o,Ls[k]? =some o:=by
    cases h:Ls[k]? with
    |none=>rw[h] at ha;simp[isFn] at ha
    |some o=>exact⟨o,rfl⟩
  rw[ho] at ha
  have e1:=take_split ho
  have main:RunsL P ops (Ls.take k ++ ([o] ++ Ls.drop (k+1))) ⟨tm,mem,c0,ch0⟩ K E.fk:=by
    refine runsL_cat (runsL_ev ch1 h1 hc1) (fun s hs=> ?_)
    subst hs
    refine runsL_cat (runsL_fn ha) ?_
    rintro s ⟨f,x,y,rfl⟩
    exact h2 f x y _ _
  rw[← e1] at main
  exact main
theorem runsL_callHS {ops:Array Oper} {Ls:List Oper} (k:Nat) {tm tm1:List Value} {mem mem1:List Mb} {c1:Prop} {ch1 ch':List (Option Value)} (h1:evL E ops (Ls.take k) ⟨tm,mem,True,ch1⟩=some ⟨tm1,mem1,c1,ch'⟩) (hc1:c1) {f:FuncId} {xs:List Operand} {d:Option Tmp} (ha:isCl (Ls[k]?)=some (f,xs,d)) (hf:∀ args (w:World),(callFunc f args).run P w= .ok (.enter f args) w) {args:List Value} (hxs:xs.map (opn tm1)=args) {G:Value→Prop} (hM:Hides P f mem1 args G (E.fk / big)) {K:Sy→Prop} (h2:∀ v c ch,np v=true→G v→RunsL P ops (Ls.drop (k+1)) ⟨putS tm1 d v,mem1,c,ch⟩ K E.fk) {c0:Prop} {ch0:List (Option Value)}:RunsL P ops Ls ⟨tm,mem,c0,ch0⟩ K E.fk:=by
  obtain⟨o,ho⟩:∃ o,Ls[k]? =some o:=by
    cases h:Ls[k]? with
    |none=>rw[h] at ha;simp[isCl] at ha
    |some o=>exact⟨o,rfl⟩
  rw[ho] at ha
  have e1:=take_split ho
  have main:RunsL P ops (Ls.take k ++ ([o] ++ Ls.drop (k+1))) ⟨tm,mem,c0,ch0⟩ K E.fk:=by
    refine runsL_cat (runsL_ev ch1 h1 hc1) (fun s hs=> ?_)
    subst hs
    refine runsL_cat (runsL_callH ha hf (by rw[hxs];exact hM)) ?_
    rintro s ⟨v,hv,hG,rfl⟩
    exact h2 v _ _ hv hG
  rw[← e1] at main
  exact main
theorem take_split3 {Ls:List Oper} {k:Nat} {o0 o1 o2:Oper} (h0:Ls[k]? =some o0) (h1:Ls[k+1]? =some o1) (h2:Ls[k+2]? =some o2):Ls=Ls.take k ++ ([o0,o1,o2] ++ Ls.drop (k+3)):=by
  have e0:=take_split h0
  obtain⟨l0,g0⟩:=List.getElem?_eq_some_iff.1 h0
  obtain⟨l1,g1⟩:=List.getElem?_eq_some_iff.1 h1
  obtain⟨l2,g2⟩:=List.getElem?_eq_some_iff.1 h2
  rw[List.cons_append,List.cons_append,List.singleton_append,← g2,List.getElem_cons_drop,← g1,List.getElem_cons_drop,← g0,List.getElem_cons_drop,List.take_append_drop]
theorem runsL_callTS {ops:Array Oper} {Ls:List Oper} (k:Nat) {tm tm1:List Value} {mem mem1:List Mb} {c1:Prop} {ch1 ch':List (Option Value)} (h1:evL E ops (Ls.take k) ⟨tm,mem,True,ch1⟩=some ⟨tm1,mem1,c1,ch'⟩) (hc1:c1) {f:FuncId} {xs:List Operand} {d0 d1 d2:Nat} (ha:isCl (Ls[k]?)=some (f,xs,some d0)) (hb:isMv (Ls[k+1]?)=some (d0,d1)) (hx:isEx (Ls[k+2]?)=some (d1,0,d2)) (hf:∀ args (w:World),(callFunc f args).run P w= .ok (.enter f args) w) {args:List Value} (hxs:xs.map (opn tm1)=args) {q:IntKind} {n:Nat} {L:List Int} {e:TypeId} {v:Value} (hM:MakesT P f mem1 args q n L e v (E.fk / big)) {i:Nat} (hi:mem1.length=i) (hl:i+1<big) (hd:d0<tm1.length∧d1<tm1.length) {K:Sy→Prop} (h2:∀ b cap c ch,L.length≤cap→RunsL P ops (Ls.drop (k+3)) ⟨((tm1.set d0 (.tuple #[.slice (some ⟨b,0,none⟩) n cap,v])).set d1 (.tuple #[.slice (some ⟨b,0,none⟩) n cap,v])).set d2 (.slice (some ⟨i,0,none⟩) n cap),mem1 ++ [(wA q cap L,e,(0,0))],c,ch⟩ K E.fk) {c0:Prop} {ch0:List (Option Value)}:RunsL P ops Ls ⟨tm,mem,c0,ch0⟩ K E.fk:=by
  obtain⟨o0,ho0⟩:∃ o,Ls[k]? =some o:=by
    cases h:Ls[k]? with
    |none=>rw[h] at ha;simp[isCl] at ha
    |some o=>exact⟨o,rfl⟩
  obtain⟨o1,ho1⟩:∃ o,Ls[k+1]? =some o:=by
    cases h:Ls[k+1]? with
    |none=>rw[h] at hb;simp[isMv] at hb
    |some o=>exact⟨o,rfl⟩
  obtain⟨o2,ho2⟩:∃ o,Ls[k+2]? =some o:=by
    cases h:Ls[k+2]? with
    |none=>rw[h] at hx;simp[isEx] at hx
    |some o=>exact⟨o,rfl⟩
  rw[ho0] at ha
  rw[ho1] at hb
  rw[ho2] at hx
  have e1:=take_split3 ho0 ho1 ho2
  subst hi
  have main:RunsL P ops (Ls.take k ++ ([o0,o1,o2] ++ Ls.drop (k+3))) ⟨tm,mem,c0,ch0⟩ K E.fk:=by
    refine runsL_cat (runsL_ev ch1 h1 hc1) (fun s hs=> ?_)
    subst hs
    refine runsL_cat (runsL_callT ha hb hx hf (by rw[hxs];exact hM) hl hd) ?_
    rintro s ⟨b,cap,hc,rfl⟩
    exact h2 b cap _ _ hc
  rw[← e1] at main
  exact main
def isSA:Option Oper→Option (TypeId×Nat×Nat)
  |some ⟨some d,.sliceToArrayPointer t (.tmp x),_,_,_,none⟩=>some (t,x,d)
  |_=>none
theorem runsL_s2a {ops:Array Oper} {o:Oper} {t:TypeId} {x d:Nat} (h:isSA (some o)=some (t,x,d)) {tm:List Value} {mem:List Mb} {c:Prop} {ch:List (Option Value)} {i p l cp n:Nat} {e:TypeId} (hx:tm.getD x undef= .slice (some ⟨i,p,none⟩) l cp) (hu:P.underlying t=some (.array n e)) (hn:n≤l):RunsL P ops [o] ⟨tm,mem,c,ch⟩ (fun s=>s=⟨putS tm (some d) (.pointer (some ⟨i,p,none⟩)),mem,c,ch⟩) fk:=fun Q rest w0 W β a R hK=>by
  obtain⟨dst,op,ty,pos,after,guard⟩:=o
  unfold isSA at h
  split at h
  · rename_i d' t' x' ty' pos' after' e
    simp only[Option.some.injEq,Oper.mk.injEq] at e
    obtain⟨rfl,rfl,rfl,rfl,rfl,rfl⟩:=e
    simp only[Option.some.injEq,Prod.mk.injEq] at h
    obtain⟨rfl,rfl,rfl⟩:=h
    refine wpList_plain rfl fun K hK'=> ?_
    have ev:=R.ev (x:= .tmp x') rfl
    simp only[opn,hx,rn] at ev
    have hr:(execOp a.eval ⟨some d',.sliceToArrayPointer t' (.tmp x'),ty,pos,after,none⟩).run P W= .ok (.value (.pointer (some ⟨β i,p,none⟩))) W:=by
      have hlt:¬ l<n:=by omega
      simp only[execOp,ev,Instr.arrayAt,Sem.run_bind,run_underlying hu,Sem.run_pure,Result.andThen_ok,if_neg hlt]
    unfold Oper.wp
    rw[hr]
    have hok:Go.Ev.okp mem.length (.slice (some ⟨i,p,none⟩) l cp)=true:=by
      rw[← hx]
      exact okp_tm R.ok x'
    exact hK' _ _ (hK _ W β _ rfl (R.put (some d') (v:= .pointer (some ⟨i,p,none⟩)) hok c ch))
  · cases h
theorem runsL_s2aS {ops:Array Oper} {Ls:List Oper} (k:Nat) {tm tm1:List Value} {mem mem1:List Mb} {c1:Prop} {ch1 ch':List (Option Value)} (h1:evL E ops (Ls.take k) ⟨tm,mem,True,ch1⟩=some ⟨tm1,mem1,c1,ch'⟩) (hc1:c1) {t e:TypeId} {x d i p l cp n:Nat} (ha:isSA (Ls[k]?)=some (t,x,d)) (hx:tm1.getD x undef= .slice (some ⟨i,p,none⟩) l cp) (hu:P.underlying t=some (.array n e)) (hn:n≤l) {K:Sy→Prop} (h2:∀ c ch,RunsL P ops (Ls.drop (k+1)) ⟨putS tm1 (some d) (.pointer (some ⟨i,p,none⟩)),mem1,c,ch⟩ K E.fk) {c0:Prop} {ch0:List (Option Value)}:RunsL P ops Ls ⟨tm,mem,c0,ch0⟩ K E.fk:=by
  obtain⟨o,ho⟩:∃ o,Ls[k]? =some o:=by
    cases h:Ls[k]? with
    |none=>rw[h] at ha;simp[isSA] at ha
    |some o=>exact⟨o,rfl⟩
  rw[ho] at ha
  have e1:=take_split ho
  have main:RunsL P ops (Ls.take k ++ ([o] ++ Ls.drop (k+1))) ⟨tm,mem,c0,ch0⟩ K E.fk:=by
    refine runsL_cat (runsL_ev ch1 h1 hc1) (fun s hs=> ?_)
    subst hs
    refine runsL_cat (runsL_s2a ha hx hu hn) ?_
    rintro s rfl
    exact h2 _ _
  rw[← e1] at main
  exact main
end
end Go.Ev
