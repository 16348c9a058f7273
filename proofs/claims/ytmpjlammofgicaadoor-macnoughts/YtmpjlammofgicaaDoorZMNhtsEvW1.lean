import Derived.Test.YtmpjlammofgicaaDoorZMNhtsEvAll
import Derived.Test.YtmpjlammofgicaaDoorZMNhtsEdEAll
import Derived.Deep.AppendSrc
import Derived.Laws.AppendOwn
set_option linter.unusedSimpArgs false
set_option linter.unusedVariables false
/-! Append to a row of one's own, or to nothing: how much room the new row has is the world's choice. -/
namespace Go.Ev
open Go.RowKit Go.Calm Go.Proofs.YtmpjlammofgicaaDoor
section
variable {P:Program} {E:En P} {fk:Nat}
structure ApT (P:Program) (t e:TypeId) (q:IntKind) (by':Nat):Prop where
  ht:P.underlying t=some (.slice e)
  hi:(P.info? e).map (fun i=>(i.zero,i.size,i.bytes))=some (some (.int q 0),1,by')
def iv (q:IntKind) (N:List Int):List Value:=N.map (Value.int q)
theorem iv_len (q:IntKind) (N:List Int):(iv q N).length=N.length:=by simp[iv]
theorem wA_list (q:IntKind) (n:Nat) (L:List Int) (h:L.length≤n):wA q n L=(iv q L ++ List.replicate (n - L.length) (Value.int q 0)).toArray:=by
  unfold wA iv
  congr 1
  apply List.ext_getElem?
  intro i
  by_cases hi:i<n
  · rw [List.getElem?_map, List.getElem?_range hi]
    by_cases hL:i<L.length
    · rw [List.getElem?_append_left (by simpa using hL)]
      simp[hL]
    · rw [List.getElem?_append_right (by simp; omega)]
      simp only[List.length_map,List.getElem?_replicate]
      rw[if_pos (by omega)]
      simp[List.getD_eq_getElem?_getD,List.getElem?_eq_none (Nat.not_lt.1 hL)]
  · rw[List.getElem?_eq_none (by simpa using Nat.not_lt.1 hi),List.getElem?_eq_none (by simp;omega)]
theorem wA_size (q:IntKind) (n:Nat) (L:List Int):(wA q n L).size=n:=by simp[wA]
def al (i M:Nat):Value→Value
  | .pointer (some ⟨k,o,none⟩)=>if k=i then .pointer (some ⟨M,o,none⟩) else .pointer (some ⟨k,o,none⟩)
  | .slice (some ⟨k,o,none⟩) l c=>if k=i then .slice (some ⟨M,o,none⟩) l c else .slice (some ⟨k,o,none⟩) l c
  |v=>v
abbrev J (j:Nat→Value) (a n:Nat):List Value:=(List.range n).map fun i=>j (a+i)
abbrev JA (j:Nat→Value) (i M a n:Nat):List Value:=(List.range n).map fun x=>al i M (j (a+x))
abbrev JU (n:Nat):List Value:=List.replicate n undef
theorem al_rn {β β' : Nat → Nat} {i M : Nat} (h1 : β' M = β i) (h2 : ∀ k, k ≠ i → k ≠ M → β' k = β k) {v : Value} (hv : pnum v < M) : rn β' (al i M v) = rn β v := by
  cases v with
  | pointer a =>
    cases a with
    |none=>rfl
    | some a =>
      obtain⟨k,o,s⟩:=a
      cases s with
      | none =>
        simp only[pnum] at hv
        simp only[al]
        split
        · rename_i e;simp only[rn,h1,e]
        · rename_i e;simp only[rn];rw[h2 k e (by omega)]
      |some s=>rfl
  | slice a l c =>
    cases a with
    |none=>rfl
    | some a =>
      obtain⟨k,o,s⟩:=a
      cases s with
      | none =>
        simp only[pnum] at hv
        simp only[al]
        split
        · rename_i e;simp only[rn,h1,e]
        · rename_i e;simp only[rn];rw[h2 k e (by omega)]
      |some s=>rfl
  |_=>rfl
theorem al_ok {i M n : Nat} (hM : big ≤ M) {v : Value} (h : okp n v = true) : okp n (al i M v) = true := by
  cases v with
  | pointer a =>
    cases a with
    |none=>simp[okp] at h
    | some a =>
      obtain⟨k,o,s⟩:=a
      cases s with
      | none =>
        simp only[al]
        split
        · simp only[okp,Bool.or_eq_true,decide_eq_true_eq];omega
        · exact h
      |some s=>simp[okp] at h
  | slice a l c =>
    cases a with
    |none=>rfl
    | some a =>
      obtain⟨k,o,s⟩:=a
      cases s with
      | none =>
        simp only[al]
        split
        · simp only[okp,Bool.or_eq_true,decide_eq_true_eq];omega
        · exact h
      |some s=>simp[okp] at h
  |_=>rfl
theorem app_cells {q:IntKind} {cap:Nat} {L N:List Int} (h:L.length+N.length≤cap):((wA q cap L).toList.take L.length ++ iv q N ++ (wA q cap L).toList.drop (L.length+(iv q N).length)).toArray=wA q cap (L ++ N):=by
  rw[wA_list q cap L (by omega),wA_list q cap (L ++ N) (by simpa using h)]
  simp only[iv_len]
  congr 1
  rw[List.take_append_of_le_length (by simp[iv]),List.take_of_length_le (by simp[iv]),List.drop_append,List.drop_eq_nil_of_le (by simp[iv])]
  simp only[iv,List.map_append,List.length_map,List.drop_replicate,List.nil_append,List.length_append,List.append_assoc]
  congr 3
  omega
theorem app_cells2 {q:IntKind} {cap':Nat} {L N:List Int} (h:L.length+N.length≤cap'):(iv q L ++ iv q N).toArray ++ Builtin.zeroCells (Value.int q 0).cells (cap' - (L.length+N.length))=wA q cap' (L ++ N):=by
  rw[wA_list q cap' (L ++ N) (by simpa using h)]
  apply Array.ext'
  simp[Builtin.zeroCells,Value.cells,iv,List.append_assoc]
  apply List.ext_getElem?
  intro j
  by_cases hj:j<cap' - (L.length+N.length)
  · simp[hj,Nat.mod_one]
  · simp[hj]
structure SrcOk (q:IntKind) (mem:List Mb) (u:Value) (N:List Int):Prop where
  h:(u= .slice none 0 0∧N= [])∨∃ j p c src st,u= .slice (some ⟨j,p,none⟩) N.length c∧mem[j]? =some (src,st)∧p+N.length≤src.size∧src.extract p (p+N.length)=(iv q N).toArray
theorem src_of {q:IntKind} {w0 W:World} {β:Nat→Nat} {mem:List Mb} (R:Rp fk w0 W β mem) {u:Value} {N:List Int} (h:SrcOk q mem u N) {tx ex:TypeId} (hx:P.underlying tx=some (.slice ex)):Src P 1 tx (rn β u) N.length (iv q N) W:=by
  rcases h.h with⟨rfl,rfl⟩|⟨j,p,c,src,st,rfl,hm,hs,he⟩
  · exact Src.ofNil W hx 0
  · refine Src.ofSlice W hx ⟨β j, p, none⟩ N.length c (iv q N) (by simp [iv]) (fun k v hv => ?_) (fun v hv => ?_)
    · have hk : k < N.length := by have := (List.getElem?_eq_some_iff.1 hv).1; simpa [iv] using this
      have ha:(⟨β j,p,none⟩:Addr).add k=⟨β j,p+k,none⟩:=by unfold Addr.add;split<;>simp_all
      rw[ha,cell_of_row W (β j) (p+k) src st.1 _ (R.has j _ hm)]
      have h2:(src.extract p (p+N.length))[k]? =some v:=by rw[he];simpa using hv
      rw[Array.getElem?_extract_of_lt (by omega)] at h2
      rw[← h2,Array.getElem?_eq_getElem (by omega)]
    · obtain ⟨n, _, rfl⟩ := List.mem_map.1 hv
      rfl
theorem app_own {t e tx ex ty : TypeId} {q : IntKind} {by' : Nat} (T : ApT P t e q by') (hx : P.underlying tx = some (.slice ex)) {w0 W : World} {β : Nat → Nat} {σ : Sy} {a : Act} (R : Rl fk w0 W β σ a) {i cap : Nat} {L N : List Int} (hgk : fk / big ≤ fk % big) (hk : fk % big ≤ i) (hm : σ.mem[i]? = some (wA q cap L, e, (0, 0))) (hL : L.length ≤ cap) {u : Value} (hu : SrcOk q σ.mem u N) (hb : 2 * (L.length + N.length) * by' ≤ 281474976710656) (h63 : L.length + N.length ≤ 9223372036854775807) :
    ∃ v W' β' cap' M,(Builtin.append_ #[t,tx] ty #[rn β (.slice (some ⟨i,0,none⟩) L.length cap),rn β u]).run P W= .ok v W'∧L.length+N.length≤cap'∧big≤M∧v=rn β' (.slice (some ⟨i,0,none⟩) (L.length+N.length) cap')∧Rl fk w0 W' β' ⟨σ.tm.map (al i M),σ.mem.set i (wA q cap' (L ++ N),e,(0,0)),σ.c,σ.ch⟩ a:=by
  obtain⟨M,hM1,hM2⟩:=pnum_bd σ.tm
  obtain⟨inf,hinf,hz⟩:=Option.map_eq_some_iff.1 T.hi
  simp only[Prod.mk.injEq] at hz
  obtain⟨hz0,hz1,hz2⟩:=hz
  have hS:=src_of R.m hu hx
  have hrow:=R.m.has i _ hm
  obtain⟨hil,_⟩:=List.getElem?_eq_some_iff.1 hm
  have hlt:=R.m.lt
  have iM:i≠M:=by omega
  by_cases hroom:L.length+N.length≤cap
  · -- there is room
    have hst:=run_storeCells_at (P:=P) (β i) L.length e (iv q N) 0 (wA q cap L) W hrow (by rw[wA_size,iv_len];omega) (fun v hv=>by obtain⟨n,_,rfl⟩:=List.mem_map.1 hv;rfl)
    simp only[Nat.add_zero,app_cells hroom] at hst
    obtain⟨β',hβ⟩:∃ β':Nat→Nat,β'=fun k=>if k=M then β i else β k:=⟨_,rfl⟩
    have b1:β' M=β i:=by simp[hβ]
    have b2:∀ k,k≠M→β' k=β k:=fun k h=>by simp[hβ,h]
    refine⟨.slice (some ⟨β i,0,none⟩) (L.length+N.length) cap,W.setRow (β i) (wA q cap (L ++ N)),β',cap,M,?_,hroom,hM1,by simp only[rn,b2 i iM],?_⟩
    · have e0 : rn β (.slice (some ⟨i, 0, none⟩) L.length cap) = .slice (some ⟨β i, 0, none⟩) L.length cap := rfl
      rw[e0]
      generalize rn β u=ur at hS
      have hs1:(sizeOf e).run P W= .ok 1 W:=by simp[sizeOf,typeInfo,hinf,hz1]
      have hA:(⟨β i,0,none⟩:Addr).add L.length=⟨β i,L.length,none⟩:=by unfold Addr.add;split<;>simp_all
      rcases hS.kind with⟨e',hk'⟩|hk'
      · simp[Builtin.append_,run_underlying T.ht,run_underlying hk',hs1,hS.len,hroom,hS.cells,hA,hst]
      · simp[Builtin.append_,run_underlying T.ht,run_underlying hk',hs1,hS.len,hroom,hS.cells,hA,hst]
    · have R1 := R.m.store hk hm (wA q cap (L ++ N))
      refine⟨⟨R1.below,fun k h1 h2=> ?_,fun k l h1 h2 h3 he=> ?_,fun k x h=> ?_,R1.lt,fun k h=>⟨(R1.gl k h).1,?_⟩⟩,?_,R.d,fun v hv=> ?_⟩
      · have h2' : k < σ.mem.length := by simpa using h2
        rw[b2 k (by omega)];exact R1.own k h1 h2
      · have h2' : k < σ.mem.length := by simpa using h2
        have h3':l<σ.mem.length:=by simpa using h3
        rw[b2 k (by omega),b2 l (by omega)] at he;exact R1.inj k l h1 h2 h3 he
      · have h2' : k < σ.mem.length := by have := (List.getElem?_eq_some_iff.1 h).1; simpa using this
        rw[b2 k (by omega)];exact R1.has k x h
      · have := (R1.gl k h).1
        have h2':k<σ.mem.length:=by simpa using this
        rw[b2 k (by omega)];exact(R1.gl k h).2
      · rw [R.t, List.map_map]
        congr 1
        exact List.map_congr_left fun v hv=>(al_rn b1 (fun k h1 h2=>b2 k h2) (hM2 v hv)).symm
      · obtain ⟨v', hv', rfl⟩ := List.mem_map.1 hv
        simp only[List.length_set]
        exact al_ok hM1 (R.ok v' hv')
  · -- a new row
    have hold:(Builtin.firstCells inf.size L.length (rn β (.slice (some ⟨i,0,none⟩) L.length cap))).run P W.drew= .ok (iv q L).toArray W.drew:=by
      rw[hz1]
      refine run_firstCells_some W.drew 1 L.length ⟨β i,0,none⟩ L.length cap (iv q L) (by simp[iv]) (fun k v hv=> ?_)
      have hk2:k<L.length:=by have:=(List.getElem?_eq_some_iff.1 hv).1;simpa[iv] using this
      have ha:(⟨β i,0,none⟩:Addr).add k=⟨β i,k,none⟩:=by unfold Addr.add;split<;>simp_all
      rw[ha]
      show W.cell? _=_
      rw[cell_of_row W (β i) k _ e _ hrow,wA_list q cap L hL]
      simp only[List.getElem?_toArray]
      rw[List.getElem?_append_left (by simpa[iv] using hk2)]
      exact hv
    have hg:cap<L.length+N.length:=by omega
    have hfit:Builtin.nextslicecap (L.length+N.length) cap*inf.bytes≤281474976710656:=by
      rw[hz2]
      exact Nat.le_trans (Nat.mul_le_mul_right _ (nextslicecap_le hg)) hb
    have hrun:=run_append_grow_src (P:=P) W t tx ty e inf (.int q 0) T.ht hinf hz0 (some ⟨β i,0,none⟩) L.length cap (iv q L) (by simpa only[rn] using hold) (rn β u) N.length (iv q N) (by rw[hz1];exact hS) hg (by omega) hfit
    obtain⟨cap',hcap⟩:∃ c,c=grownCap W (L.length+N.length) cap e:=⟨_,rfl⟩
    have hge:L.length+N.length≤cap':=by rw[hcap];exact grownCap_ge _ _ _ _
    rw[← hcap,app_cells2 hge] at hrun
    obtain⟨β',hβ⟩:∃ β':Nat→Nat,β'=fun k=>if k=M then β i else if k=i then W.heap.size else β k:=⟨_,rfl⟩
    have b1:β' M=β i:=by simp[hβ]
    have b2:∀ k,k≠i→k≠M→β' k=β k:=fun k h h'=>by simp[hβ,h,h']
    have b3:β' i=W.heap.size:=by simp[hβ,iM]
    have hfresh:∀ k,k<σ.mem.length→β k<W.heap.size:=fun k hk=>lt_of_heap (R.m.has k _ (List.getElem?_eq_getElem hk))
    refine⟨.slice (some ⟨W.heap.size,0,none⟩) (L.length+N.length) cap',_,β',cap',M,hrun,hge,hM1,by simp only[rn,b3],?_⟩
    refine⟨⟨?_,fun k h1 h2=> ?_,fun k l h1 h2 h3 he=> ?_,fun k x h=> ?_,by simpa using hlt,fun k h=> ?_⟩,?_,R.d,fun v hv=> ?_⟩
    · exact(R.m.below.drew).alloc R.m.below.size _
    · have h2' : k < σ.mem.length := by simpa using h2
      by_cases hki:k=i
      · rw[hki,b3];exact R.m.below.size
      · rw[b2 k hki (by omega)];exact R.m.own k h1 h2'
    · have h2' : k < σ.mem.length := by simpa using h2
      have h3':l<σ.mem.length:=by simpa using h3
      by_cases hki:k=i
      · by_cases hli : l = i
        · rw[hki,hli]
        · rw [hki, b3, b2 l hli (by omega)] at he
          have:=hfresh l h3'
          omega
      · by_cases hli : l = i
        · rw [hli, b3, b2 k hki (by omega)] at he
          have:=hfresh k h2'
          omega
        · rw [b2 k hki (by omega), b2 l hli (by omega)] at he
          exact R.m.inj k l h1 h2' h3' he
    · have h2' : k < σ.mem.length := by have := (List.getElem?_eq_some_iff.1 h).1; simpa using this
      by_cases hki:k=i
      · subst hki
        simp only at h
        rw[List.getElem?_set_self hil] at h
        simp only[Option.some.injEq] at h
        subst h
        rw[b3]
        exact heap_alloc_new W.drew _
      · simp only at h
        rw[List.getElem?_set_ne (fun e=>hki e.symm)] at h
        rw[b2 k hki (by omega),heap_alloc_old W.drew _ (hfresh k h2')]
        exact R.m.has k x h
    · have hgl := R.m.gl k h
      have hlt2:k<σ.mem.length:=hgl.1
      refine⟨by simpa using hgl.1,?_⟩
      by_cases hki:k=i
      · omega
      · rw[b2 k hki (by omega)];exact hgl.2
    · rw [R.t, List.map_map]
      congr 1
      exact List.map_congr_left fun v hv=>(al_rn b1 b2 (hM2 v hv)).symm
    · obtain ⟨v', hv', rfl⟩ := List.mem_map.1 hv
      simp only[List.length_set]
      exact al_ok hM1 (R.ok v' hv')
def RunsL (P:Program) (ops:Array Oper) (l:List Oper) (σ:Sy) (K:Sy→Prop) (fk:Nat:=0):Prop:=∀(Q:Exit→Act→World→Prop) (rest:List Oper) (w0 W:World) (β:Nat→Nat) (a:Act),Rl fk w0 W β σ a→(∀ σ' W' β' a',K σ'→Rl fk w0 W' β' σ' a'→wpList P ops Q rest a' W')→wpList P ops Q (l ++ rest) a W
theorem evLr_ok {ops : Array Oper} : ∀ (l : List Oper) (σ σ' : Sy), evL E ops l σ = some σ' → σ'.c → σ.c ∧ ∀ {Q : Exit → Act → World → Prop} {rest : List Oper} {w0 W : World} {β : Nat → Nat} {a : Act}, Rl E.fk w0 W β σ a → (∀ W' β' a', Rl E.fk w0 W' β' σ' a' → wpList P ops Q rest a' W') → wpList P ops Q (l ++ rest) a W
  | [], σ, σ', h, hc => by
    simp only[evL,Option.some.injEq] at h
    subst h
    exact⟨hc,fun R hK=>hK _ _ _ R⟩
  | o :: r, σ, σ', h, hc => by
    unfold evL at h
    split at h
    · rename_i hw
      split at h
      · rename_i σ1 hs
        obtain⟨h1,h2⟩:=evLr_ok r σ1 σ' h hc
        refine⟨(stM_wp hs h1).1,fun {Q rest w0 W β a} R hK=> ?_⟩
        exact(stM_ok (ops:=ops) (rest:=r ++ rest) hs h1).2 R (by rw[yielded_eq R];exact hw) (fun W' β' a' R'=>h2 R' hK)
      · cases h
    · rename_i hw
      obtain⟨h1,h2⟩:=evLr_ok r (offS σ o) σ' h hc
      exact⟨h1,fun R hK=>wl_off (by rw[yielded_eq R];simpa using hw) (h2 (R.off o) hK)⟩
theorem runsL_ev {ops:Array Oper} {l:List Oper} {tm:List Value} {mem:List Mb} (ch:List (Option Value)) {σ':Sy} (h:evL E ops l ⟨tm,mem,True,ch⟩=some σ') (hc:σ'.c) {c0:Prop} {ch0:List (Option Value)}:RunsL P ops l ⟨tm,mem,c0,ch0⟩ (fun s=>s=σ') E.fk:=
  fun Q rest w0 W β a R hK=>(evLr_ok l _ _ h hc).2 (R.re True ch) (fun W' β' a' R'=>hK _ W' β' a' rfl R')
theorem RunsL.mono {ops:Array Oper} {l:List Oper} {σ:Sy} {K K':Sy→Prop} (h:RunsL P ops l σ K fk) (hK:∀ s,K s→K' s):RunsL P ops l σ K' fk:=fun Q rest w0 W β a R h2=>h Q rest w0 W β a R (fun s W' β' a' k R'=>h2 s W' β' a' (hK s k) R')
theorem runsL_cat {ops:Array Oper} {l1 l2:List Oper} {σ:Sy} {K1 K:Sy→Prop} (h1:RunsL P ops l1 σ K1 fk) (h2:∀ s,K1 s→RunsL P ops l2 s K fk):RunsL P ops (l1 ++ l2) σ K fk:=fun Q rest w0 W β a R hK=>by
  rw[List.append_assoc]
  exact h1 Q (l2 ++ rest) w0 W β a R (fun s W' β' a' k R'=>h2 s k Q rest w0 W' β' a' R' hK)
def isReg:Code→Bool
  | .region _ _ false=>true
  |_=>false
def oT:Code→Array Oper
  | .region _ o _=>o
  |_=> #[]
theorem runs_region {c:Code} (hr:isReg c=true) {σ:Sy} {K:Sy→Prop} (h:RunsL P (oT c) (oT c).toList σ K fk):Runs P c σ (fun e s=>e= .normal∧K s) fk:=fun Q w0 W β a R hK=>by
  unfold isReg at hr
  split at hr
  · rename_i i o
    refine wp_region_list ?_
    have:=h Q [] w0 W β a R (fun s W' β' a' k R'=>hK .normal s W' β' a' ⟨rfl,k⟩ R')
    rw[List.append_nil] at this
    exact this
  · cases hr
def isApp : Option Oper → Option (TypeId × TypeId × Operand × Operand × Option Tmp)
  | some ⟨d, .call ⟨.builtin .append, xs, ts⟩, _, _, _, none⟩ => (match xs.toList, ts.toList with
    | [x,y],[t,tx]=>if opk x && opk y then some (t,tx,x,y,d) else none
    |_,_=>none)
  |_=>none
theorem app_wp {ops : Array Oper} {o : Oper} {t tx : TypeId} {x y : Operand} {d : Option Tmp} (h : isApp (some o) = some (t, tx, x, y, d)) {Q : Exit → Act → World → Prop} {rest : List Oper} {a : Act} {W W' : World} {v : Value} (hr : ∀ ty, (Builtin.append_ #[t, tx] ty #[a.eval x, a.eval y]).run P W = .ok v W') (hK : wpList P ops Q rest (a.put d v) W') : wpList P ops Q ([o] ++ rest) a W := by
  obtain⟨dst,op,ty,pos,after,guard⟩:=o
  unfold isApp at h
  split at h
  · rename_i d' xs ts ty' pos' after' e
    simp only[Option.some.injEq,Oper.mk.injEq] at e
    obtain⟨rfl,rfl,rfl,rfl,rfl,rfl⟩:=e
    split at h
    · rename_i x' y' t' tx' e1 e2
      have e1:xs= #[x',y']:=Array.ext' (by rw[e1])
      have e2:ts= #[t',tx']:=Array.ext' (by rw[e2])
      subst e1 e2
      split at h
      · simp only [Option.some.injEq, Prod.mk.injEq] at h
        obtain⟨rfl,rfl,rfl,rfl,rfl⟩:=h
        refine wpList_plain rfl fun K hK'=> ?_
        unfold Oper.wp
        simp[execOp,resolve,invoke,builtin,hr,Result.andThen]
        exact hK' _ _ hK
      · cases h
    · cases h
  · cases h
theorem isApp_opk {o : Option Oper} {r : TypeId × TypeId × Operand × Operand × Option Tmp} (h : isApp o = some r) : opk r.2.2.1 = true ∧ opk r.2.2.2.1 = true := by
  unfold isApp at h
  split at h
  · split at h
    · split at h
      · rename_i hk
        simp only[Option.some.injEq] at h
        subst h
        simpa using hk
      · cases h
    · cases h
  · cases h
theorem runsL_app {ops:Array Oper} {o:Oper} {t tx e ex:TypeId} {x y:Operand} {d:Option Tmp} (h:isApp (some o)=some (t,tx,x,y,d)) {q:IntKind} {by':Nat} (T:ApT P t e q by') (hx:P.underlying tx=some (.slice ex)) {tm:List Value} {mem:List Mb} {c:Prop} {ch:List (Option Value)} {i len cap:Nat} {L N:List Int} (hgk:fk / big≤fk%big) (hk:fk%big≤i) (hv:opn tm x= .slice (some ⟨i,0,none⟩) len cap) (hlen:len=L.length) (hm:mem[i]? =some (wA q cap L,e,(0,0))) (hL:L.length≤cap) (hu:SrcOk q mem (opn tm y) N) (hb:2*(L.length+N.length)*by'≤281474976710656) (h63:L.length+N.length≤9223372036854775807):
    RunsL P ops [o] ⟨tm,mem,c,ch⟩ (fun s=>∃ cap' M,L.length+N.length≤cap'∧s=⟨putS (tm.map (al i M)) d (.slice (some ⟨i,0,none⟩) (L.length+N.length) cap'),mem.set i (wA q cap' (L ++ N),e,(0,0)),c,ch⟩) fk:=fun Q rest w0 W β a R hK=>by
  subst hlen
  obtain⟨hkx,hky⟩:=isApp_opk h
  simp only at hkx hky
  have key:∀ ty,_:=fun ty=>app_own (ty:=ty) T hx R hgk hk hm hL hu hb h63
  obtain⟨v,W',β',cap',M,hr,hge,hM,hv',R'⟩:=key 0
  have hil:i<mem.length:=(List.getElem?_eq_some_iff.1 hm).1
  refine app_wp h (v:=v) (W':=W') (fun ty=> ?_) (hK _ W' β' _ ⟨cap',M,hge,rfl⟩ ?_)
  · rw [R.ev hkx, R.ev hky]
    simp only[hv]
    exact hr
  · have := R'.put d (v := .slice (some ⟨i, 0, none⟩) (L.length + N.length) cap') (by simp only [okp, List.length_set]; simp [hil]) c ch
    rw[← hv'] at this
    exact this
theorem take_split {l:List Oper} {k:Nat} {o:Oper} (h:l[k]? =some o):l=l.take k ++ ([o] ++ l.drop (k+1)):=by
  obtain⟨hk,he⟩:=List.getElem?_eq_some_iff.1 h
  rw[← he]
  simp
theorem runsL_appS {ops:Array Oper} {Ls:List Oper} (k:Nat) {tm tm1:List Value} {mem mem1:List Mb} {c1:Prop} {ch1 ch':List (Option Value)} (h1:evL E ops (Ls.take k) ⟨tm,mem,True,ch1⟩=some ⟨tm1,mem1,c1,ch'⟩) (hc1:c1) {t tx e ex:TypeId} {x y:Operand} {d:Option Tmp} (ha:isApp (Ls[k]?)=some (t,tx,x,y,d)) {q:IntKind} {by':Nat} (T:ApT P t e q by') (hx:P.underlying tx=some (.slice ex)) {i len cap:Nat} {L N:List Int} (hgk:E.fk / big≤E.fk%big) (hk:E.fk%big≤i) (hv:opn tm1 x= .slice (some ⟨i,0,none⟩) len cap) (hlen:len=L.length) (hm:mem1[i]? =some (wA q cap L,e,(0,0))) (hL:L.length≤cap) (hu:SrcOk q mem1 (opn tm1 y) N) (hb:2*(L.length+N.length)*by'≤281474976710656) (h63:L.length+N.length≤9223372036854775807) {K:Sy→Prop} (h2:∀ n cap' M c ch,n=L.length+N.length→n≤cap'→RunsL P ops (Ls.drop (k+1)) ⟨putS (tm1.map (al i M)) d (.slice (some ⟨i,0,none⟩) n cap'),mem1.set i (wA q cap' (L ++ N),e,(0,0)),c,ch⟩ K E.fk) {c0:Prop} {ch0:List (Option Value)}:RunsL P ops Ls ⟨tm,mem,c0,ch0⟩ K E.fk:=by
  obtain⟨o,ho⟩:∃ o,Ls[k]? =some o:=by
    cases h:Ls[k]? with
    |none=>rw[h] at ha;simp[isApp] at ha
    |some o=>exact⟨o,rfl⟩
  rw[ho] at ha
  have e1:=take_split ho
  have main:RunsL P ops (Ls.take k ++ ([o] ++ Ls.drop (k+1))) ⟨tm,mem,c0,ch0⟩ K E.fk:=by
    refine runsL_cat (runsL_ev ch1 h1 hc1) (fun s hs=> ?_)
    subst hs
    refine runsL_cat (runsL_app ha T hx hgk hk hv hlen hm hL hu hb h63) ?_
    rintro s ⟨cap',M,hge,rfl⟩
    exact h2 _ cap' M _ _ rfl hge
  rw[← e1] at main
  exact main
end
end Go.Ev

set_option linter.unusedSimpArgs false
set_option linter.unusedVariables false
/-! Append of noughts. -/
namespace Go.Ev
open Go.RowKit Go.Calm Go.Proofs.YtmpjlammofgicaaDoor
section
variable {P:Program} {E:En P} {fk:Nat}
theorem app_ownS {t e tx ty : TypeId} {q : IntKind} {by' : Nat} (T : ApT P t e q by') {w0 W : World} {β : Nat → Nat} {σ : Sy} {a : Act} (R : Rl fk w0 W β σ a) {i cap : Nat} {L N : List Int} (hgk : fk / big ≤ fk % big) (hk : fk % big ≤ i) (hm : σ.mem[i]? = some (wA q cap L, e, (0, 0))) (hL : L.length ≤ cap) {u : Value} (hS : Src P 1 tx u N.length (iv q N) W) (hb : 2 * (L.length + N.length) * by' ≤ 281474976710656) (h63 : L.length + N.length ≤ 9223372036854775807) :
    ∃ v W' β' cap' M,(Builtin.append_ #[t,tx] ty #[rn β (.slice (some ⟨i,0,none⟩) L.length cap),u]).run P W= .ok v W'∧L.length+N.length≤cap'∧big≤M∧v=rn β' (.slice (some ⟨i,0,none⟩) (L.length+N.length) cap')∧Rl fk w0 W' β' ⟨σ.tm.map (al i M),σ.mem.set i (wA q cap' (L ++ N),e,(0,0)),σ.c,σ.ch⟩ a:=by
  obtain⟨M,hM1,hM2⟩:=pnum_bd σ.tm
  obtain⟨inf,hinf,hz⟩:=Option.map_eq_some_iff.1 T.hi
  simp only[Prod.mk.injEq] at hz
  obtain⟨hz0,hz1,hz2⟩:=hz
  have hrow:=R.m.has i _ hm
  obtain⟨hil,_⟩:=List.getElem?_eq_some_iff.1 hm
  have hlt:=R.m.lt
  have iM:i≠M:=by omega
  by_cases hroom:L.length+N.length≤cap
  · -- there is room
    have hst:=run_storeCells_at (P:=P) (β i) L.length e (iv q N) 0 (wA q cap L) W hrow (by rw[wA_size,iv_len];omega) (fun v hv=>by obtain⟨n,_,rfl⟩:=List.mem_map.1 hv;rfl)
    simp only[Nat.add_zero,app_cells hroom] at hst
    obtain⟨β',hβ⟩:∃ β':Nat→Nat,β'=fun k=>if k=M then β i else β k:=⟨_,rfl⟩
    have b1:β' M=β i:=by simp[hβ]
    have b2:∀ k,k≠M→β' k=β k:=fun k h=>by simp[hβ,h]
    refine⟨.slice (some ⟨β i,0,none⟩) (L.length+N.length) cap,W.setRow (β i) (wA q cap (L ++ N)),β',cap,M,?_,hroom,hM1,by simp only[rn,b2 i iM],?_⟩
    · have e0 : rn β (.slice (some ⟨i, 0, none⟩) L.length cap) = .slice (some ⟨β i, 0, none⟩) L.length cap := rfl
      rw[e0]
      have hs1:(sizeOf e).run P W= .ok 1 W:=by simp[sizeOf,typeInfo,hinf,hz1]
      have hA:(⟨β i,0,none⟩:Addr).add L.length=⟨β i,L.length,none⟩:=by unfold Addr.add;split<;>simp_all
      rcases hS.kind with⟨e',hk'⟩|hk'
      · simp[Builtin.append_,run_underlying T.ht,run_underlying hk',hs1,hS.len,hroom,hS.cells,hA,hst]
      · simp[Builtin.append_,run_underlying T.ht,run_underlying hk',hs1,hS.len,hroom,hS.cells,hA,hst]
    · have R1 := R.m.store hk hm (wA q cap (L ++ N))
      refine⟨⟨R1.below,fun k h1 h2=> ?_,fun k l h1 h2 h3 he=> ?_,fun k x h=> ?_,R1.lt,fun k h=>⟨(R1.gl k h).1,?_⟩⟩,?_,R.d,fun v hv=> ?_⟩
      · have h2' : k < σ.mem.length := by simpa using h2
        rw[b2 k (by omega)];exact R1.own k h1 h2
      · have h2' : k < σ.mem.length := by simpa using h2
        have h3':l<σ.mem.length:=by simpa using h3
        rw[b2 k (by omega),b2 l (by omega)] at he;exact R1.inj k l h1 h2 h3 he
      · have h2' : k < σ.mem.length := by have := (List.getElem?_eq_some_iff.1 h).1; simpa using this
        rw[b2 k (by omega)];exact R1.has k x h
      · have := (R1.gl k h).1
        have h2':k<σ.mem.length:=by simpa using this
        rw[b2 k (by omega)];exact(R1.gl k h).2
      · rw [R.t, List.map_map]
        congr 1
        exact List.map_congr_left fun v hv=>(al_rn b1 (fun k h1 h2=>b2 k h2) (hM2 v hv)).symm
      · obtain ⟨v', hv', rfl⟩ := List.mem_map.1 hv
        simp only[List.length_set]
        exact al_ok hM1 (R.ok v' hv')
  · -- a new row
    have hold:(Builtin.firstCells inf.size L.length (rn β (.slice (some ⟨i,0,none⟩) L.length cap))).run P W.drew= .ok (iv q L).toArray W.drew:=by
      rw[hz1]
      refine run_firstCells_some W.drew 1 L.length ⟨β i,0,none⟩ L.length cap (iv q L) (by simp[iv]) (fun k v hv=> ?_)
      have hk2:k<L.length:=by have:=(List.getElem?_eq_some_iff.1 hv).1;simpa[iv] using this
      have ha:(⟨β i,0,none⟩:Addr).add k=⟨β i,k,none⟩:=by unfold Addr.add;split<;>simp_all
      rw[ha]
      show W.cell? _=_
      rw[cell_of_row W (β i) k _ e _ hrow,wA_list q cap L hL]
      simp only[List.getElem?_toArray]
      rw[List.getElem?_append_left (by simpa[iv] using hk2)]
      exact hv
    have hg:cap<L.length+N.length:=by omega
    have hfit:Builtin.nextslicecap (L.length+N.length) cap*inf.bytes≤281474976710656:=by
      rw[hz2]
      exact Nat.le_trans (Nat.mul_le_mul_right _ (nextslicecap_le hg)) hb
    have hrun:=run_append_grow_src (P:=P) W t tx ty e inf (.int q 0) T.ht hinf hz0 (some ⟨β i,0,none⟩) L.length cap (iv q L) (by simpa only[rn] using hold) u N.length (iv q N) (by rw[hz1];exact hS) hg (by omega) hfit
    obtain⟨cap',hcap⟩:∃ c,c=grownCap W (L.length+N.length) cap e:=⟨_,rfl⟩
    have hge:L.length+N.length≤cap':=by rw[hcap];exact grownCap_ge _ _ _ _
    rw[← hcap,app_cells2 hge] at hrun
    obtain⟨β',hβ⟩:∃ β':Nat→Nat,β'=fun k=>if k=M then β i else if k=i then W.heap.size else β k:=⟨_,rfl⟩
    have b1:β' M=β i:=by simp[hβ]
    have b2:∀ k,k≠i→k≠M→β' k=β k:=fun k h h'=>by simp[hβ,h,h']
    have b3:β' i=W.heap.size:=by simp[hβ,iM]
    have hfresh:∀ k,k<σ.mem.length→β k<W.heap.size:=fun k hk=>lt_of_heap (R.m.has k _ (List.getElem?_eq_getElem hk))
    refine⟨.slice (some ⟨W.heap.size,0,none⟩) (L.length+N.length) cap',_,β',cap',M,hrun,hge,hM1,by simp only[rn,b3],?_⟩
    refine⟨⟨?_,fun k h1 h2=> ?_,fun k l h1 h2 h3 he=> ?_,fun k x h=> ?_,by simpa using hlt,fun k h=> ?_⟩,?_,R.d,fun v hv=> ?_⟩
    · exact(R.m.below.drew).alloc R.m.below.size _
    · have h2' : k < σ.mem.length := by simpa using h2
      by_cases hki:k=i
      · rw[hki,b3];exact R.m.below.size
      · rw[b2 k hki (by omega)];exact R.m.own k h1 h2'
    · have h2' : k < σ.mem.length := by simpa using h2
      have h3':l<σ.mem.length:=by simpa using h3
      by_cases hki:k=i
      · by_cases hli : l = i
        · rw[hki,hli]
        · rw [hki, b3, b2 l hli (by omega)] at he
          have:=hfresh l h3'
          omega
      · by_cases hli : l = i
        · rw [hli, b3, b2 k hki (by omega)] at he
          have:=hfresh k h2'
          omega
        · rw [b2 k hki (by omega), b2 l hli (by omega)] at he
          exact R.m.inj k l h1 h2' h3' he
    · have h2' : k < σ.mem.length := by have := (List.getElem?_eq_some_iff.1 h).1; simpa using this
      by_cases hki:k=i
      · subst hki
        simp only at h
        rw[List.getElem?_set_self hil] at h
        simp only[Option.some.injEq] at h
        subst h
        rw[b3]
        exact heap_alloc_new W.drew _
      · simp only at h
        rw[List.getElem?_set_ne (fun e=>hki e.symm)] at h
        rw[b2 k hki (by omega),heap_alloc_old W.drew _ (hfresh k h2')]
        exact R.m.has k x h
    · have hgl := R.m.gl k h
      have hlt2:k<σ.mem.length:=hgl.1
      refine⟨by simpa using hgl.1,?_⟩
      by_cases hki:k=i
      · omega
      · rw[b2 k hki (by omega)];exact hgl.2
    · rw [R.t, List.map_map]
      congr 1
      exact List.map_congr_left fun v hv=>(al_rn b1 b2 (hM2 v hv)).symm
    · obtain ⟨v', hv', rfl⟩ := List.mem_map.1 hv
      simp only[List.length_set]
      exact al_ok hM1 (R.ok v' hv')
theorem zeros_cells (m:Nat):Builtin.zeroCells (Value.int .u8 0).cells m=(iv .u8 (List.replicate m 0)).toArray:=by
  apply Array.ext'
  simp[Builtin.zeroCells,Value.cells,iv]
  apply List.ext_getElem?
  intro j
  by_cases hj:j<m
  · simp[hj,Nat.mod_one]
  · simp[hj]
def zst (m:Nat):ByteArray:=⟨Array.replicate m 0⟩
theorem zst_src {ts:TypeId} (hs:P.underlying ts=some .string) (m:Nat) (W:World):Src P 1 ts (.string (zst m)) (List.replicate m (0:Int)).length (iv .u8 (List.replicate m 0)) W:=by
  have:=Src.ofString W hs (zst m)
  have e1:(zst m).size=(List.replicate m (0:Int)).length:=by simp[zst,ByteArray.size]
  have e2:byteCells (zst m)=iv .u8 (List.replicate m 0):=by simp[byteCells,zst,iv]
  rw[e1,e2] at this
  exact this
theorem zeros_run {t tn ts ty e:TypeId} {by':Nat} (T:ApT P t e .u8 by') (hn:P.underlying tn=some (.int .i64)) (hs:P.underlying ts=some .string) (m:Nat) (base:Option Addr) (len cap:Nat) (hb:2*(len+m)*by'≤281474976710656) (h63:len+m≤9223372036854775807) (hm:m≤281474976710656) (hmb:m*by'≤281474976710656) (W:World):
    (Builtin.append_ #[t,tn] ty #[.slice base len cap,.int .i64 m]).run P W=(Builtin.append_ #[t,ts] ty #[.slice base len cap,.string (zst m)]).run P W:=by
  obtain⟨inf,hinf,hz⟩:=Option.map_eq_some_iff.1 T.hi
  simp only[Prod.mk.injEq] at hz
  obtain⟨hz0,hz1,hz2⟩:=hz
  have hw:IntKind.i64.wrap (m:Int)=m:=by rw[IntKind.wrap_i64];omega
  have hl:(zst m).size=m:=by simp[zst,ByteArray.size]
  have hneg:¬((m:Int)<0):=by omega
  have h48:¬((m:Int)*(by':Int)>2 ^ 48):=by
    have:((m*by':Nat):Int)≤281474976710656:=by omega
    rw[Int.natCast_mul] at this
    omega
  have hS:=zst_src (P:=P) hs m W
  have hcells:=hS.cells
  have hcellsD:=hS.cellsD
  simp only[List.length_replicate] at hcells hcellsD
  have hzc:=zeros_cells m
  have hzv:∀ W:World,(zeroValue e).run P W= .ok (.int .u8 0) W:=fun W=>by simp[zeroValue,typeInfo,hinf,hz0]
  have hsz:∀ W:World,(sizeOf e).run P W= .ok 1 W:=fun W=>by simp[sizeOf,typeInfo,hinf,hz1]
  have hti:∀ W:World,(typeInfo e).run P W= .ok inf W:=fun W=>by simp[typeInfo,hinf]
  have hzc0:m=0→(#[]:Array Value)=(iv .u8 (List.replicate m 0)).toArray:=fun h=>by subst h;rfl
  have hap:∀ W:World,((if m*1=0 then(pure #[]:Sem (Array Value)) else do pure (Builtin.zeroCells (← zeroValue e).cells m)).run P W)= .ok (iv .u8 (List.replicate m 0)).toArray W:=fun W=>by
    by_cases h0:m=0
    · simp[h0,iv]
    · simp[h0,hzv,hzc]
  have hst:∀ W:World,(Builtin.firstCells 1 m (.string (zst m))).run P W= .ok (iv .u8 (List.replicate m 0)).toArray W:=fun W=>by
    have:=(zst_src (P:=P) hs m W).cells
    simpa only[List.length_replicate] using this
  have h48':¬(281474976710656<(m:Int)*(inf.bytes:Int)):=by rw[hz2];have:=h48;omega
  have hns : ¬ (281474976710656 < Builtin.nextslicecap (len + m) cap * inf.bytes) ∨ len + m ≤ cap := by
    by_cases hroom:len+m≤cap
    · exact .inr hroom
    · refine .inl ?_
      rw[hz2]
      have:=Nat.mul_le_mul_right by' (nextslicecap_le (show cap<len+m by omega))
      omega
  have h63':¬(9223372036854775807<(len:Int)+(m:Int)):=by omega
  by_cases h0:m=0
  · subst h0
    have hw0:IntKind.i64.wrap 0=0:=by decide
    by_cases hroom:len≤cap
    · simp[Builtin.append_,run_underlying T.ht,run_underlying hn,run_underlying hs,hsz,hti,Builtin.lenOf,hl,asInt,asIntOf,hst,iv,hw0,hroom]
    · have hns := hns.resolve_right (by omega)
      simp only[Nat.add_zero] at hns
      have h63:¬(9223372036854775807<(len:Int)):=by omega
      simp[Builtin.append_,run_underlying T.ht,run_underlying hn,run_underlying hs,hsz,hti,Builtin.lenOf,hl,asInt,asIntOf,hst,iv,hw0,hroom,hns,h63]
  · by_cases hroom : len + m ≤ cap
    · simp[Builtin.append_,run_underlying T.ht,run_underlying hn,run_underlying hs,hsz,hti,hw,hneg,h48',Builtin.lenOf,hl,hroom,hzv,hzc,hst,asInt,asIntOf,h0]
    · have hns := hns.resolve_right hroom
      simp[Builtin.append_,run_underlying T.ht,run_underlying hn,run_underlying hs,hsz,hti,hw,hneg,h48',Builtin.lenOf,hl,hroom,hzv,hzc,hst,asInt,asIntOf,h0,hns,h63']
theorem runsL_appZ {ops:Array Oper} {o:Oper} {t tx ts e:TypeId} {x y:Operand} {d:Option Tmp} (h:isApp (some o)=some (t,tx,x,y,d)) {by':Nat} (T:ApT P t e .u8 by') (hx:P.underlying tx=some (.int .i64)∧P.underlying ts=some .string) {tm:List Value} {mem:List Mb} {c:Prop} {ch:List (Option Value)} {i len cap:Nat} {L N:List Int} (hgk:fk / big≤fk%big) (hk:fk%big≤i) (hv:opn tm x= .slice (some ⟨i,0,none⟩) len cap) (hlen:len=L.length) (hm:mem[i]? =some (wA .u8 cap L,e,(0,0))) (hL:L.length≤cap) {m:Nat} (hu:opn tm y= .int .i64 ((m:Nat):Int)∧N=List.replicate m 0) (hb:2*(L.length+N.length)*by'≤281474976710656) (h63:L.length+N.length≤9223372036854775807) (hmz:m≤281474976710656∧m*by'≤281474976710656):
    RunsL P ops [o] ⟨tm,mem,c,ch⟩ (fun s=>∃ cap' M,L.length+N.length≤cap'∧s=⟨putS (tm.map (al i M)) d (.slice (some ⟨i,0,none⟩) (L.length+N.length) cap'),mem.set i (wA .u8 cap' (L ++ N),e,(0,0)),c,ch⟩) fk:=fun Q rest w0 W β a R hK=>by
  subst hlen
  obtain⟨hkx,hky⟩:=isApp_opk h
  simp only at hkx hky
  obtain⟨hy,rfl⟩:=hu
  simp only[List.length_replicate] at hb h63
  have hS:=zst_src (P:=P) hx.2 m W
  have key:∀ ty,_:=fun ty=>app_ownS (ty:=ty) T R hgk hk hm hL hS (by simpa only[List.length_replicate] using hb) (by simpa only[List.length_replicate] using h63)
  obtain⟨v,W',β',cap',M,hr,hge,hM,hv',R'⟩:=key 0
  have hil:i<mem.length:=(List.getElem?_eq_some_iff.1 hm).1
  refine app_wp h (v:=v) (W':=W') (fun ty=> ?_) (hK _ W' β' _ ⟨cap',M,hge,rfl⟩ ?_)
  · rw [R.ev hkx, R.ev hky]
    simp only[hv,hy]
    have hz:=zeros_run (ty:=ty) T hx.1 hx.2 m (some ⟨β i,0,none⟩) L.length cap hb h63 hmz.1 hmz.2 W
    show(Builtin.append_ #[t,tx] ty #[.slice (some ⟨β i,0,none⟩) L.length cap,.int .i64 m]).run P W=_
    rw[hz]
    exact hr
  · have := R'.put d (v := .slice (some ⟨i, 0, none⟩) (L.length + (List.replicate m (0 : Int)).length) cap') (by simp only [okp, List.length_set]; simp [hil]) c ch
    rw[← hv'] at this
    exact this
theorem runsL_appSZ {ops:Array Oper} {Ls:List Oper} (k:Nat) {tm tm1:List Value} {mem mem1:List Mb} {c1:Prop} {ch1 ch':List (Option Value)} (h1:evL E ops (Ls.take k) ⟨tm,mem,True,ch1⟩=some ⟨tm1,mem1,c1,ch'⟩) (hc1:c1) {t tx ts e:TypeId} {x y:Operand} {d:Option Tmp} (ha:isApp (Ls[k]?)=some (t,tx,x,y,d)) {by':Nat} (T:ApT P t e .u8 by') (hx:P.underlying tx=some (.int .i64)∧P.underlying ts=some .string) {i len cap:Nat} {L N:List Int} (hgk:E.fk / big≤E.fk%big) (hk:E.fk%big≤i) (hv:opn tm1 x= .slice (some ⟨i,0,none⟩) len cap) (hlen:len=L.length) (hm:mem1[i]? =some (wA .u8 cap L,e,(0,0))) (hL:L.length≤cap) {m:Nat} (hu:opn tm1 y= .int .i64 ((m:Nat):Int)∧N=List.replicate m 0) (hb:2*(L.length+N.length)*by'≤281474976710656) (h63:L.length+N.length≤9223372036854775807) (hmz:m≤281474976710656∧m*by'≤281474976710656) {K:Sy→Prop} (h2:∀ n cap' M c ch,n=L.length+N.length→n≤cap'→RunsL P ops (Ls.drop (k+1)) ⟨putS (tm1.map (al i M)) d (.slice (some ⟨i,0,none⟩) n cap'),mem1.set i (wA .u8 cap' (L ++ N),e,(0,0)),c,ch⟩ K E.fk) {c0:Prop} {ch0:List (Option Value)}:RunsL P ops Ls ⟨tm,mem,c0,ch0⟩ K E.fk:=by
  obtain⟨o,ho⟩:∃ o,Ls[k]? =some o:=by
    cases h:Ls[k]? with
    |none=>rw[h] at ha;simp[isApp] at ha
    |some o=>exact⟨o,rfl⟩
  rw[ho] at ha
  have e1:=take_split ho
  have main:RunsL P ops (Ls.take k ++ ([o] ++ Ls.drop (k+1))) ⟨tm,mem,c0,ch0⟩ K E.fk:=by
    refine runsL_cat (runsL_ev ch1 h1 hc1) (fun s hs=> ?_)
    subst hs
    refine runsL_cat (runsL_appZ ha T hx hgk hk hv hlen hm hL hu hb h63 hmz) ?_
    rintro s ⟨cap',M,hge,rfl⟩
    exact h2 _ cap' M _ _ rfl hge
  rw[← e1] at main
  exact main
end
end Go.Ev
