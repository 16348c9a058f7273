import Derived.Test.YtcfnjcacdmkgbaaDoorZMEndsSchAll
import Derived.Test.YtcfnjcacdmkgbaaDoorZMEndsMidArr
import Derived.Deep.OwnRows
import Derived.Laws.IdiomStrings
import Derived.Laws.CopyRow
import Derived.LoopN
import Derived.Deep.LoopGhost
/-
  A function's code,run by a program inside the kernel over values that are told:its own variables are numbered blocks,what it calls answers by a table.
  What a yes or no hangs on is told ahead (a list of choices),and is owed as a condition.
-/
namespace Go.Ev
open Go.RowKit Go.Calm
theorem tt1 {p:Prop} (h:p):p∧True:=⟨h,trivial⟩
theorem tt2 {p:Prop} (h:p):(p∧True)∧True:=tt1 (tt1 h)
theorem tt3 {p:Prop} (h:p):((p∧True)∧True)∧True:=tt1 (tt2 h)
theorem tt4 {p:Prop} (h:p):(((p∧True)∧True)∧True)∧True:=tt1 (tt3 h)
theorem tt5 {p:Prop} (h:p):((((p∧True)∧True)∧True)∧True)∧True:=tt1 (tt4 h)
theorem tt6 {p:Prop} (h:p):(((((p∧True)∧True)∧True)∧True)∧True)∧True:=tt1 (tt5 h)
theorem tt7 {p:Prop} (h:p):((((((p∧True)∧True)∧True)∧True)∧True)∧True)∧True:=tt1 (tt6 h)
theorem tt8 {p:Prop} (h:p):(((((((p∧True)∧True)∧True)∧True)∧True)∧True)∧True)∧True:=tt1 (tt7 h)
theorem tt9 {p:Prop} (h:p):((((((((p∧True)∧True)∧True)∧True)∧True)∧True)∧True)∧True)∧True:=tt1 (tt8 h)

def rn (β:Nat→Nat):Value→Value
  | .pointer (some ⟨i,o,none⟩)=> .pointer (some ⟨β i,o,none⟩)
  | .slice (some ⟨i,o,none⟩) l c=> .slice (some ⟨β i,o,none⟩) l c
  |v=>v
def np:Value→Bool
  | .pointer _=>false
  | .slice (some _) _ _=>false
  |_=>true
theorem rn_np {β:Nat→Nat} {v:Value} (h:np v=true):rn β v=v:=by
  cases v with
  |slice a l c=>cases a<;>first|rfl|(simp[np] at h)
  |_=>first|rfl|(simp[np] at h)
def big:Nat:=1000000
def okp (n:Nat):Value→Bool
  | .pointer (some ⟨i,_,none⟩)=>decide (i<n) || decide (big≤i)
  | .pointer _=>false
  | .slice (some ⟨i,_,none⟩) _ _=>decide (i<n) || decide (big≤i)
  | .slice (some _) _ _=>false
  |_=>true
theorem okp_mono {n m:Nat} (h:n≤m) {v:Value} (hv:okp n v=true):okp m v=true:=by
  cases v with
  | pointer a =>
    cases a with
    |none=>simp[okp] at hv
    | some a =>
      obtain⟨i,o,s⟩:=a
      cases s with
      |none=>simp only[okp,Bool.or_eq_true,decide_eq_true_eq] at hv ⊢; omega
      |some s=>simp[okp] at hv
  | slice a l c =>
    cases a with
    |none=>rfl
    | some a =>
      obtain⟨i,o,s⟩:=a
      cases s with
      |none=>simp only[okp,Bool.or_eq_true,decide_eq_true_eq] at hv ⊢; omega
      |some s=>simp[okp] at hv
  |_=>rfl
theorem okp_np {n:Nat} {v:Value} (h:np v=true):okp n v=true:=by
  cases v with
  |slice a l c=>cases a<;>first|rfl|(simp[np] at h)
  |_=>first|rfl|(simp[np] at h)
theorem rn_ext {β β' : Nat → Nat} {n : Nat} (h : ∀ i, i < n ∨ big ≤ i → β i = β' i) {v : Value} (hv : okp n v = true) : rn β v = rn β' v := by
  cases v with
  | pointer a =>
    cases a with
    |none=>rfl
    | some a =>
      obtain⟨i,o,s⟩:=a
      cases s with
      | none =>
        simp only[okp,Bool.or_eq_true,decide_eq_true_eq] at hv
        simp only[rn,h i hv]
      |some s=>rfl
  | slice a l c =>
    cases a with
    |none=>rfl
    | some a =>
      obtain⟨i,o,s⟩:=a
      cases s with
      | none =>
        simp only[okp,Bool.or_eq_true,decide_eq_true_eq] at hv
        simp only[rn,h i hv]
      |some s=>rfl
  |_=>rfl

abbrev Mb:Type:=Array Value×(TypeId×(Nat×Nat))
structure Sy where
  tm:List Value
  mem:List Mb
  c:Prop
  ch:List (Option Value)
def Has (W:World) (β:Nat→Nat) (mem:List Mb):Prop:=∀ i x,mem[i]? =some x→W.heap[β i]? =some (.cells x.1 x.2.1 x.2.2)
structure Rp (fk:Nat) (w0 W:World) (β:Nat→Nat) (mem:List Mb):Prop where
  below:Below w0.heap.size w0 W
  own:∀ i,fk%big≤i→i<mem.length→w0.heap.size≤β i
  inj:∀ i j,fk%big≤i→i<mem.length→j<mem.length→β i=β j→i=j
  has:∀ i x,mem[i]? =some x→W.heap[β i]? =some (.cells x.1 x.2.1 x.2.2)
  lt:mem.length<big
  gl:∀ i,i<fk / big→i<mem.length∧β i=i
structure Rl (fk:Nat) (w0 W:World) (β:Nat→Nat) (σ:Sy) (a:Act):Prop where
  m:Rp fk w0 W β σ.mem
  t:a.tmps=(σ.tm.map (rn β)).toArray
  d:a.defers= []
  ok:∀ v ∈ σ.tm,okp σ.mem.length v=true
variable {fk:Nat}
structure Rt (fk:Nat) (β:Nat→Nat) (tm:List Value) (a:Act):Prop where
  t:a.tmps=(tm.map (rn β)).toArray
  gl:∀ i,i<fk / big→β i=i
structure Rv (fk:Nat) (W:World) (β:Nat→Nat) (σ:Sy) (a:Act):Prop where
  has:∀ i x,σ.mem[i]? =some x→W.heap[β i]? =some (.cells x.1 x.2.1 x.2.2)
  t:a.tmps=(σ.tm.map (rn β)).toArray
  gl:∀ i,i<fk / big→β i=i
theorem Rv.rt {W:World} {β:Nat→Nat} {σ:Sy} {a:Act} (R:Rv fk W β σ a):Rt fk β σ.tm a:=⟨R.t,R.gl⟩
theorem Rl.v {w0 W:World} {β:Nat→Nat} {σ:Sy} {a:Act} (R:Rl fk w0 W β σ a):Rv fk W β σ a:=⟨R.m.has,R.t,fun i h=>(R.m.gl i h).2⟩
theorem Rp.call {w0 W W':World} {β:Nat→Nat} {mem:List Mb} (R:Rp fk w0 W β mem) (h:Below W.heap.size W W'):Rp fk w0 W' β mem:=
  ⟨Below.all_trans R.below h,R.own,R.inj,fun i x hx=>by rw[h.block _ (lt_of_heap (R.has i x hx))];exact R.has i x hx,R.lt,R.gl⟩
theorem Rp.drew {w0 W:World} {β:Nat→Nat} {mem:List Mb} (R:Rp fk w0 W β mem):Rp fk w0 W.drew β mem:=⟨R.below.drew,R.own,R.inj,R.has,R.lt,R.gl⟩
def upd (β:Nat→Nat) (n b:Nat):Nat→Nat:=fun i=>if i=n then b else β i
theorem upd_old {β:Nat→Nat} {n b i:Nat} (h:i<n):upd β n b i=β i:=by unfold upd;rw[if_neg (by omega)]
theorem upd_far {β:Nat→Nat} {n b i:Nat} (hn:n<big) (h:big≤i):upd β n b i=β i:=by unfold upd;rw[if_neg (by omega)]
theorem upd_ext {β:Nat→Nat} {n b:Nat} (hn:n<big):∀ i,i<n∨big≤i→β i=upd β n b i:=fun i hi=>by
  rcases hi with hi|hi
  · exact(upd_old hi).symm
  · exact(upd_far hn hi).symm
theorem upd_new {β:Nat→Nat} {n b:Nat}:upd β n b n=b:=by unfold upd;rw[if_pos rfl]
theorem Rp.more {w0 W':World} {β:Nat→Nat} {mem:List Mb} {b:Nat} {cs:Array Value} {t:TypeId} (R:Rp fk w0 W' β mem) (hl:mem.length+1<big) (hb:w0.heap.size≤b) (hf:∀ i,i<mem.length→β i≠b) (h:W'.heap[b]? =some (.cells cs t (0,0))):Rp fk w0 W' (upd β mem.length b) (mem ++ [(cs,t,(0,0))]):=by
  refine⟨R.below,fun i hk hi=> ?_,fun i j hk hi hj e=> ?_,fun i x hx=> ?_,by simpa using hl,fun i h=>⟨by have:=(R.gl i h).1;simp only[List.length_append,List.length_singleton];omega,by rw[upd_old (R.gl i h).1];exact(R.gl i h).2⟩⟩
  · simp only [List.length_append, List.length_singleton] at hi
    by_cases h:i<mem.length
    · rw[upd_old h];exact R.own i hk h
    · have : i = mem.length := by omega
      subst this
      rw[upd_new];exact hb
  · simp only [List.length_append, List.length_singleton] at hi hj
    by_cases h1:i<mem.length<;>by_cases h2:j<mem.length
    · rw[upd_old h1,upd_old h2] at e;exact R.inj i j hk h1 h2 e
    · have : j = mem.length := by omega
      subst this
      rw[upd_old h1,upd_new] at e;exact absurd e (hf i h1)
    · have : i = mem.length := by omega
      subst this
      rw[upd_old h2,upd_new] at e;exact absurd e.symm (hf j h2)
    · omega
  · by_cases h1 : i < mem.length
    · rw [List.getElem?_append_left h1] at hx
      rw[upd_old h1];exact R.has i x hx
    · have hlt := List.getElem?_eq_some_iff.1 hx
      obtain⟨hl,_⟩:=hlt
      simp only[List.length_append,List.length_singleton] at hl
      have:i=mem.length:=by omega
      subst this
      rw[List.getElem?_append_right (Nat.le_refl _),Nat.sub_self] at hx
      simp only[List.getElem?_cons_zero,Option.some.injEq] at hx
      subst hx
      rw[upd_new];exact h
theorem Rp.new {w0 W:World} {β:Nat→Nat} {mem:List Mb} (R:Rp fk w0 W β mem) (hl:mem.length+1<big) (cs:Array Value) (t:TypeId):Rp fk w0 (W.alloc (.cells cs t)) (upd β mem.length W.heap.size) (mem ++ [(cs,t,(0,0))]):=by
  refine Rp.more ⟨R.below.alloc R.below.size _,R.own,R.inj,fun i x hx=> ?_,R.lt,R.gl⟩ hl R.below.size (fun i hi=> ?_) (heap_alloc_new _ _)
  · rw[heap_alloc_old _ _ _ (lt_of_heap (R.has i x hx))];exact R.has i x hx
  · have := lt_of_heap (R.has i _ (List.getElem?_eq_getElem hi))
    omega
theorem Rp.store {w0 W:World} {β:Nat→Nat} {mem:List Mb} (R:Rp fk w0 W β mem) {i:Nat} {old:Array Value} {t:TypeId} (hk:fk%big≤i) (h:mem[i]? =some (old,t,(0,0))) (cs:Array Value):Rp fk w0 (W.setRow (β i) cs) β (mem.set i (cs,t,(0,0))):=by
  obtain⟨hi,_⟩:=List.getElem?_eq_some_iff.1 h
  have hb:=R.has i _ h
  refine⟨below_setRow R.below (R.own i hk hi) cs,fun j hf hj=>R.own j hf (by simpa using hj),fun j k hf hj hk=>R.inj j k hf (by simpa using hj) (by simpa using hk),fun j x hx=> ?_,by simpa using R.lt,fun i h=>by simpa using R.gl i h⟩
  by_cases hji:j=i
  · subst hji
    rw[List.getElem?_set_self hi] at hx
    simp only[Option.some.injEq] at hx
    subst hx
    exact setRow_heap W _ _ cs _ _ hb
  · rw [List.getElem?_set_ne (fun e => hji e.symm)] at hx
    obtain⟨hj,_⟩:=List.getElem?_eq_some_iff.1 hx
    rw[setRow_other _ _ _ _ (fun e=>hji (R.inj i j hk hi hj e.symm).symm)]
    exact R.has j x hx

theorem freeze_heap {W:World} {b n:Nat} {cs:Array Value} {t:TypeId} (h:W.heap[b]? =some (.cells cs t (0,0))):(W.freeze ⟨b,n,none⟩ 1).heap[b]? =some (.cells cs t (n,n+1)):=by
  unfold World.freeze
  rw[if_neg (by decide)]
  simp only[Array.getElem?_modify,if_true,h]
  rfl
theorem freeze_other {W:World} {b n k:Nat} (hk:k≠b):(W.freeze ⟨b,n,none⟩ 1).heap[k]? =W.heap[k]? :=by
  unfold World.freeze
  rw[if_neg (by decide)]
  simp only[Array.getElem?_modify]
  rw[if_neg (fun e=>hk e.symm)]
theorem below_freeze {B:Nat} {w W:World} {b n:Nat} (h:Below B w W) (hb:B≤b):Below B w (W.freeze ⟨b,n,none⟩ 1):=by
  refine⟨h.os,h.tape,h.output,?_,fun k hk=> ?_⟩
  · have : (W.freeze ⟨b, n, none⟩ 1).heap.size = W.heap.size := by
      unfold World.freeze
      rw[if_neg (by decide)]
      simp
    rw[this];exact h.size
  · rw[freeze_other (by omega)];exact h.block k hk
theorem Rp.mark {w0 W:World} {β:Nat→Nat} {mem:List Mb} (R:Rp fk w0 W β mem) {i:Nat} {cs:Array Value} {t:TypeId} (hk:fk%big≤i) (h:mem[i]? =some (cs,t,(0,0))):Rp fk w0 (W.freeze ⟨β i,cs.size,none⟩ 1) β (mem.set i (cs,t,(cs.size,cs.size+1))):=by
  obtain⟨hi,_⟩:=List.getElem?_eq_some_iff.1 h
  have hb:=R.has i _ h
  refine⟨below_freeze R.below (R.own i hk hi),fun j hf hj=>R.own j hf (by simpa using hj),fun j k hf hj hk=>R.inj j k hf (by simpa using hj) (by simpa using hk),fun j x hx=> ?_,by simpa using R.lt,fun i h=>by simpa using R.gl i h⟩
  by_cases hji:j=i
  · subst hji
    rw[List.getElem?_set_self hi] at hx
    simp only[Option.some.injEq] at hx
    subst hx
    exact freeze_heap hb
  · rw [List.getElem?_set_ne (fun e => hji e.symm)] at hx
    obtain⟨hj,_⟩:=List.getElem?_eq_some_iff.1 hx
    rw[freeze_other (fun e=>hji (R.inj i j hk hi hj e.symm).symm)]
    exact R.has j x hx

def opn (tm:List Value):Operand→Value
  | .tmp t=>tm.getD t undef
  | .const v=>v
  | .global g=> .pointer (some ⟨g,0,none⟩)
  | .func f=> .func (.func f) #[] #[]
theorem opn_eval {β:Nat→Nat} {tm:List Value} {a:Act} (R:Rt fk β tm a) (x:Operand) (h:(match x with| .const v=>np v| .global _=>false|_=>true)=true):a.eval x=rn β (opn tm x):=by
  cases x with
  | tmp t =>
    show a.tmps.getD t undef=rn β (tm.getD t undef)
    rw[R.t,Array.getD_eq_getD_getElem?,List.getElem?_toArray,List.getElem?_map,List.getD_eq_getElem?_getD]
    cases tm[t]? with
    |none=>rfl
    |some v=>rfl
  |const v=>exact(rn_np h).symm
  |global g=>simp at h
  |func f=>rfl
def opk:Operand→Bool
  | .const v=>np v
  | .global _=>false
  |_=>true
def opg (n:Nat):Operand→Bool
  | .global g=>Nat.blt g n
  |x=>opk x
theorem Rt.evg {β:Nat→Nat} {tm:List Value} {a:Act} (R:Rt fk β tm a) {x:Operand} (h:opg (fk / big) x=true):a.eval x=rn β (opn tm x):=by
  cases x with
  | global g =>
    show Value.pointer (some ⟨g,0,none⟩)=Value.pointer (some ⟨β g,0,none⟩)
    rw[R.gl g (by simpa[opg,Nat.blt_eq] using h)]
  |tmp t=>exact opn_eval R _ rfl
  |const v=>exact opn_eval R _ h
  |func f=>exact opn_eval R _ rfl
theorem Rt.ev {β:Nat→Nat} {tm:List Value} {a:Act} (R:Rt fk β tm a) {x:Operand} (h:opk x=true):a.eval x=rn β (opn tm x):=opn_eval R x (by cases x<;>exact h)
theorem Rt.evn {β:Nat→Nat} {tm:List Value} {a:Act} (R:Rt fk β tm a) {x:Operand} (h:opk x=true) (hn:np (opn tm x)=true):a.eval x=opn tm x:=by rw[R.ev h,rn_np hn]
theorem Rv.ev {W:World} {β:Nat→Nat} {σ:Sy} {a:Act} (R:Rv fk W β σ a) {x:Operand} (h:opk x=true):a.eval x=rn β (opn σ.tm x):=R.rt.ev h
theorem Rl.ev {w0 W:World} {β:Nat→Nat} {σ:Sy} {a:Act} (R:Rl fk w0 W β σ a) {x:Operand} (h:opk x=true):a.eval x=rn β (opn σ.tm x):=R.v.ev h
theorem Rl.evn {w0 W:World} {β:Nat→Nat} {σ:Sy} {a:Act} (R:Rl fk w0 W β σ a) {x:Operand} (h:opk x=true) (hn:np (opn σ.tm x)=true):a.eval x=opn σ.tm x:=by rw[R.ev h,rn_np hn]

def putS (tm:List Value):Option Tmp→Value→List Value
  |some d,v=>tm.set d v
  |none,_=>tm
theorem Rl.put {w0 W:World} {β:Nat→Nat} {σ:Sy} {a:Act} (R:Rl fk w0 W β σ a) (d:Option Tmp) {v:Value} (hv:okp σ.mem.length v=true) (c:Prop) (ch:List (Option Value)):Rl fk w0 W β ⟨putS σ.tm d v,σ.mem,c,ch⟩ (a.put d (rn β v)):=by
  cases d with
  |none=>exact⟨R.m,R.t,R.d,R.ok⟩
  | some d =>
    refine⟨R.m,?_,R.d,fun u hu=> ?_⟩
    · show a.tmps.setIfInBounds d (rn β v) = _
      rw[R.t,List.setIfInBounds_toArray]
      simp only[putS,List.map_set]
    · rcases List.mem_or_eq_of_mem_set hu with h | h
      · exact R.ok u h
      · rw[h];exact hv
theorem yielded_v {W : World} {β : Nat → Nat} {σ : Sy} {a : Act} (R : Rv fk W β σ a) (ops : Array Oper) : yielded ops a.tmps = yielded ops σ.tm.toArray := by
  funext j
  unfold yielded
  rw[R.t]
  cases(ops[j]?).bind (·.dst) with
  |none=>rfl
  | some d =>
    simp only[Option.bind_some,List.getElem?_toArray,List.getElem?_map]
    cases σ.tm[d]? with
    |none=>rfl
    | some v =>
      simp only[Option.map_some]
      cases v with
      | pointer a =>
        cases a with
        |none=>rfl
        |some a=>obtain⟨i,o,s⟩:=a;cases s<;>rfl
      | slice a l c =>
        cases a with
        |none=>rfl
        |some a=>obtain⟨i,o,s⟩:=a;cases s<;>rfl
      |_=>rfl
theorem yielded_eq {w0 W:World} {β:Nat→Nat} {σ:Sy} {a:Act} (R:Rl fk w0 W β σ a) (ops:Array Oper):yielded ops a.tmps=yielded ops σ.tm.toArray:=yielded_v R.v ops
end Go.Ev

set_option linter.unusedSimpArgs false
set_option linter.unusedVariables false
namespace Go.Ev
open Go.RowKit Go.Calm
def bnd:Option Value→Nat→Option Nat
  |none,d=>some d
  |some (.int _ j),_=>if 0≤j then some j.toNat else none
  |_,_=>none
def bnI:Option Value→Nat→Option (Nat×Prop)
  |none,d=>some (d,True)
  |some (.int _ j),_=>some (j.toNat,0≤j)
  |_,_=>none
theorem bnI_ok {x:Option Value} {d l:Nat} {c:Prop} (h:bnI x d=some (l,c)) (hc:c):bnd x d=some l:=by
  unfold bnI at h
  split at h
  · simp only [Option.some.injEq, Prod.mk.injEq] at h
    obtain⟨rfl,rfl⟩:=h;rfl
  · simp only [Option.some.injEq, Prod.mk.injEq] at h
    obtain⟨rfl,rfl⟩:=h
    unfold bnd;simp only;rw[if_pos hc]
  · cases h
def u8v:Value→UInt8
  | .int _ n=>UInt8.ofNat n.toNat
  |_=>0
def bstr (cs:Array Value):ByteArray:=⟨(cs.toList.map u8v).toArray⟩
def isB8:Value→Bool
  | .int .u8 n=>decide (0≤n) && decide (n<256)
  |_=>false
theorem b8_ok {v:Value} (h:isB8 v=true):v= .int .u8 ((u8v v).toNat:Int):=by
  unfold isB8 at h
  split at h
  · rename_i n
    simp only[Bool.and_eq_true,decide_eq_true_eq] at h
    have:(UInt8.ofNat n.toNat).toNat=n.toNat:=by
      rw[UInt8.toNat_ofNat']
      omega
    simp only[u8v,this]
    rw[Int.toNat_of_nonneg h.1]
  · cases h
def optk:Option Operand→Bool
  |none=>true
  |some x=>opk x
structure En (P:Program) where
  A:TypeId→Option Nat
  hA:∀ t k,A t=some k→AggT P t k
  O:TypeId→Bool
  hO:∀ t,O t=true→OneT P t
  F:TypeId→Nat→Option Nat
  hF:∀ t f off,F t f=some off→∀ b o (w:World),(Instr.fieldAt t (.pointer (some ⟨b,o,none⟩)) f).run P w= .ok (.pointer (some ⟨b,o+off,none⟩)) w
  Z:TypeId→Option (Array Value)
  hZ:∀ t cs,Z t=some cs→(P.info? t).bind (·.zero)=some (.agg cs)
  fk:Nat
  T:FuncId→List Mb→List Value→Option (Value×Prop)
  hT:∀ f mem as v c,T f mem as=some (v,c)→c→∀ w β,Has w β mem→(∀ i,i<fk / big→β i=i)→Calls P f (as.map (rn β)).toArray w (fun e w'=>e= .returned v∧Below w.heap.size w w')
  hC:∀ f mem as v c,T f mem as=some (v,c)→∀ args (w:World),(callFunc f args).run P w= .ok (.enter f args) w
  M:FuncId→List Mb→List Value→Option (Array Value×TypeId×Nat×Nat×Prop)
  hM:∀ f mem as cs t n k c,M f mem as=some (cs,t,n,k,c)→c→∀ w β,Has w β mem→(∀ i,i<fk / big→β i=i)→Calls P f (as.map (rn β)).toArray w (fun e w'=>∃ b,e= .returned (.slice (some ⟨b,0,none⟩) n k)∧w.heap.size≤b∧w'.heap[b]? =some (.cells cs t (0,0))∧Below w.heap.size w w')
  hMC:∀ f mem as r,M f mem as=some r→∀ args (w:World),(callFunc f args).run P w= .ok (.enter f args) w
  I:TypeId→Option (Nat×Nat)
  hI:∀ t n k,I t=some (n,k)→∀ b o (q:IntKind) (j:Int) (w:World),0≤j→j<n→(Instr.indexAt t (.pointer (some ⟨b,o,none⟩)) (.int q j)).run P w= .ok (.pointer (some ⟨b,o+j.toNat*k,none⟩)) w
  IS:TypeId→Option Nat
  hIS:∀ t k,IS t=some k→∀ b o len cap (q:IntKind) (j:Int) (w:World),0≤j→j<(len:Nat)→(Instr.indexAt t (.slice (some ⟨b,o,none⟩) len cap) (.int q j)).run P w= .ok (.pointer (some ⟨b,o+j.toNat*k,none⟩)) w
  hIU:∀ t k,IS t=some k→∃ e,P.underlying t=some (.slice e)
  S:TypeId→Option (Nat×Nat)
  hS:∀ t n k,S t=some (n,k)→∀ b o (lo hi:Option Value) (l h:Nat) (w:World),bnd lo 0=some l→bnd hi n=some h→l≤h→h≤n→l<n→(Instr.sliceAt t (.pointer (some ⟨b,o,none⟩)) lo hi none).run P w= .ok (.slice (some ⟨b,o+l*k,none⟩) (h - l) (n - l)) w
  hSL:∀ t k,IS t=some k→∀(a:Option Addr) (len cap:Nat) (lo hi:Option Value) (l h:Nat) (w:World),bnd lo 0=some l→bnd hi len=some h→l≤h→h≤cap→(Instr.sliceAt t (.slice a len cap) lo hi none).run P w= .ok (.slice (if cap=l then a else a.map (·.add (l*k))) (h - l) (cap - l)) w
  CP:TypeId→Bool
  hCP:∀ t,CP t=true→∃ e,P.underlying t=some (.slice e)∧(P.info? e).map (·.size)=some 1
  CV:TypeId→TypeId→Bool
  hCV:∀ s d,CV s d=true→∃ e,P.underlying s=some (.slice e)∧P.underlying e=some (.int .u8)∧P.underlying d=some .string
  CI:TypeId→TypeId→Bool
  hCI:∀ s d,CI s d=true→s=d∧∃ e,P.underlying s=some (.slice e)∧P.underlying e=some (.int .u8)
  BS:TypeId→Nat→List (Nat×Value)→Option (TypeId×Array Value)
  hBS:∀ t len (ps:Array (Nat×Value)) e cs,BS t len ps.toList=some (e,cs)→∀ w:World,(Instr.buildSlice t len ps).run P w= .ok (.slice (some ⟨w.heap.size,0,none⟩) len len) (w.alloc (.cells cs e))
  MK:TypeId→Option (TypeId×Array Value×Nat×Nat)
  hMK:∀ t e z k b,MK t=some (e,z,k,b)→∀(kl kc:IntKind) (n m:Nat) (w:World),n≤m→b*m≤281474976710656→m≤9223372036854775807→(Instr.makeSlice t (.int kl n) (.int kc m)).run P w= .ok (.slice (some ⟨w.heap.size,0,none⟩) n m) (w.alloc (.cells (madeCells z (m*k)) e))
  U:Op→(Operand→Value)→Option (Value×Prop)
  hU:∀(o:Oper) ρ ρ' v c,U o.op ρ=some (v,c)→c→(∀ x,opk x=true→np (ρ x)=true→ρ' x=ρ x)→∀ w:World,(execOp ρ' o).run P w= .ok (.value v) w

section
variable {P:Program} (E:En P)
def nps:Option (Value×Prop)→Option (Value×Prop)
  |some (v,c)=>if np v then some (v,c) else none
  |none=>none
theorem nps_ok {r:Option (Value×Prop)} {v:Value} {c:Prop} (h:nps r=some (v,c)):r=some (v,c)∧np v=true:=by
  unfold nps at h
  split at h
  · split at h
    · rename_i hn
      simp only[Option.some.injEq,Prod.mk.injEq] at h
      obtain⟨rfl,rfl⟩:=h
      exact⟨rfl,hn⟩
    · cases h
  · cases h
def stQ (mem : List Mb) (ρ : Operand → Value) : Op → Option (Value × Prop)
  | .move x=>if opk x then some (ρ x,True) else none
  | .assign x=>if opk x then some (ρ x,True) else none
  | .pick c x y=>if opk c && opk x && opk y then(match ρ c with| .bool true=>some (ρ x,True)| .bool false=>some (ρ y,True)|_=>none) else none
  | .extract x i=>if opk x then(match ρ x with| .tuple vs=>(match vs[i]? with|some v=>if np v then some (v,True) else none|none=>none)|_=>none) else none
  | .unOp .not t x=>if opk x then(match ρ x with| .bool b=>some (.bool !b,True)|_=>none) else none
  | .fieldAddr t x f=>if opk x then(match ρ x with| .pointer (some ⟨i,o,none⟩)=>(match E.F t f with|some off=>some (.pointer (some ⟨i,o+off,none⟩),True)|none=>none)|_=>none) else none
  | .indexAddr t x i=>if opg (E.fk / big) x && opk i then(match ρ x,ρ i with
      | .pointer (some ⟨b,o,none⟩),.int _ j=>(match E.I t with|some (n,k)=>some (.pointer (some ⟨b,o+j.toNat*k,none⟩),(0≤j∧j<n))|none=>none)
      | .slice (some ⟨b,o,none⟩) len _,.int _ j=>(match E.IS t with|some k=>some (.pointer (some ⟨b,o+j.toNat*k,none⟩),(0≤j∧j<len))|none=>none)
      |_,_=>none) else none
  | .slice t x lo hi mx=>if opk x && optk lo && optk hi && mx.isNone then(match ρ x,E.S t with
      | .pointer (some ⟨b, o, none⟩), some (n, k) => (match bnd (lo.map ρ) 0, bnd (hi.map ρ) n with
        |some l,some h=>if l≤h∧h≤n∧l<n then some (.slice (some ⟨b,o+l*k,none⟩) (h - l) (n - l),True) else none
        |_,_=>none)
      | .slice (some ⟨b, o, none⟩) len cap, _ => (match E.IS t, bnI (lo.map ρ) 0, bnI (hi.map ρ) len with
        |some k,some (l,c1),some (h,c2)=>some (.slice (some ⟨b,if cap=l then o else o+l*k,none⟩) (h - l) (cap - l),((c1∧c2)∧l≤h∧h≤cap))
        |_,_,_=>none)
      | .slice none len cap, _ => (match E.IS t, bnI (lo.map ρ) 0, bnI (hi.map ρ) len with
        |some _,some (l,c1),some (h,c2)=>some (.slice none (h - l) (cap - l),((c1∧c2)∧l≤h∧h≤cap))
        |_,_,_=>none)
      |_,_=>none) else none
  | .load t x => if opk x then (match ρ x with
      | .pointer (some ⟨i, o, none⟩) => (match mem[i]? with
        | some (cs, _) => (match E.A t with
          |some k=>if o=0∧k=cs.size then some (.agg cs,True) else if k=(cs.extract o (o+k)).size then some (.agg (cs.extract o (o+k)),True) else none
          |none=>if E.O t then(match cs[o]? with|some v=>if np v then some (v,True) else none|none=>none) else none)
        |none=>none)
      |_=>none) else none
  | .build t ps=>if ps.toList.all (fun p=>opk p.2 && np (ρ p.2)) then(match P.built t (ps.map fun(i,x)=>(i,ρ x)).toList with|some cs=>some (.agg cs,True)|none=>none) else none
  | .call { callee:= .value (.func f),args:=as,argTypes:=_ }=>if as.toList.all (fun x=>opk x) then nps (E.T f mem (as.toList.map ρ)) else none
  | .call { callee:= .value (.tmp t),args:=as,argTypes:=_ }=>if as.toList.all (fun x=>opk x) then(match ρ (.tmp t) with
      | .func (.func f) first captured=>if first.size=0∧captured.size=0 then nps (E.T f mem (as.toList.map ρ)) else none
      |_=>none) else none
  | .call { callee:= .builtin .len,args:=as,argTypes:=ts }=>(match as.toList,ts.toList with
      | [x],[t]=>if opk x then(match ρ x,E.IS t with| .slice _ l _,some _=>some (.int .i64 l,True)|_,_=>none) else none
      |_,_=>none)
  | .convert s d x=>if opk x then(match ρ x with
      | .slice (some ⟨b, o, none⟩) l _ => (match mem[b]? with
        |some (cs,_)=>if E.CV s d then some (.string (bstr (cs.extract o (o+l))),((cs.extract o (o+l)).all isB8=true∧o+l≤cs.size)) else none
        |none=>none)
      | .slice none 0 0=>if E.CV s d then some (.string (bstr #[]),True) else none
      |_=>nps (E.U (.convert s d x) ρ)) else none
  |o=>nps (E.U o ρ)

def callB:Op→Bool
  | .call _=>true
  |_=>false
def chooses:Op→Bool
  | .call _=>true
  | .binOp .. =>true
  | .extract .. =>true
  | .load .. =>true
  |_=>false
def tells:Op→Bool
  | .binOp .. =>true
  | .convert .. =>true
  | .load .. =>true
  |_=>false
def choose (o : Op) (r : Value × Prop) (ch : List (Option Value)) : Value × Prop × List (Option Value) :=
  match r.1 with
  | .bool e => (match chooses o, ch with
    |true,some (.bool d) :: rest=>(.bool d,(r.2∧e=d),rest)
    |true,_ :: rest=>(.bool e,r.2,rest)
    |_,_=>(r.1,r.2,ch))
  | .int k n => (match tells o, ch with
    |true,some (.int k' m) :: rest=>if k'=k then(.int k' m,(r.2∧n=m),rest) else(r.1,r.2,rest)
    |true,_ :: rest=>(.int k n,r.2,rest)
    |_,_=>(r.1,r.2,ch))
  | .agg a => (match o, ch with
    | .load .., some (.tuple _) :: rest=>(.agg a,r.2,rest)
    |_,_=>(.agg a,r.2,ch))
  |_=>(r.1,r.2,ch)
theorem choose_ok (o : Op) (r : Value × Prop) (ch : List (Option Value)) (h : (choose o r ch).2.1) : r.2 ∧ (choose o r ch).1 = r.1 := by
  obtain⟨v,c⟩:=r
  unfold choose at h ⊢
  cases v with
  | bool e =>
    simp only at h ⊢
    split at h
    · exact⟨h.1,by rw[h.2]⟩
    · exact⟨h,rfl⟩
    · exact⟨h,rfl⟩
  | int k n =>
    simp only at h ⊢
    split at h
    · split at h
      · rename_i e
        rw[if_pos e]
        exact⟨h.1,by rw[h.2,e]⟩
      · rename_i e
        rw[if_neg e]
        exact⟨h,rfl⟩
    · exact⟨h,rfl⟩
    · exact⟨h,rfl⟩
  | agg a =>
    simp only at h ⊢
    split at h
    · exact⟨h,rfl⟩
    · exact⟨h,rfl⟩
  |_=>exact⟨h,rfl⟩
def ldT (E:En P) (mem:List Mb) (ρ:Operand→Value) (o:Op) (ch:List (Option Value)):Option (Value×Prop):=match o,ch with
  | .load t x,some (.int k m) :: _=>if opk x && E.O t && (E.A t).isNone then(match ρ x with
      | .pointer (some ⟨i,off,none⟩)=>(match mem[i]? with|some (cs,_)=>some (.int k m,cs[off]? =some (.int k m))|none=>none)
      |_=>none) else none
  | .load t x,some (.tuple ms) :: _=>if opk x then(match ρ x,E.A t,(ms[0]? :Option Value) with
      | .pointer (some ⟨i,off,none⟩),some k,some (.agg m)=>(match mem[i]? with|some (cs,_)=>some (.agg m,(cs.extract off (off+k)=m∧k=m.size))|none=>none)
      |_,_,_=>none) else none
  |_,_=>none
def stT (E:En P) (mem:List Mb) (ρ:Operand→Value) (o:Op) (ch:List (Option Value)):Option (Value×Prop):=match ldT E mem ρ o ch with
  |some r=>some r
  |none=>stQ E mem ρ o

variable {E}
def LoadsAt (w:World) (β:Nat→Nat) (σ:Sy) (o:Op):Prop:=(∀ t x i off y,o= .load t x→opn σ.tm x= .pointer (some ⟨i,off,none⟩)→σ.mem[i]? =some y→w.heap[β i]? =some (.cells y.1 y.2.1 y.2.2))∧(callB o=true→Has w β σ.mem)∧(∀ s d x b off l c y,o= .convert s d x→opn σ.tm x= .slice (some ⟨b,off,none⟩) l c→σ.mem[b]? =some y→w.heap[β b]? =some (.cells y.1 y.2.1 y.2.2))
theorem loads_all {w:World} {β:Nat→Nat} {σ:Sy} {o:Op} (h:Has w β σ.mem):LoadsAt w β σ o:=⟨fun _ _ i _ y _ _ hm=>h i y hm,fun _=>h,fun _ _ _ b _ _ _ y _ _ hm=>h b y hm⟩
theorem stQ_okL {w : World} {β : Nat → Nat} {σ : Sy} {a : Act} (R : Rt E.fk β σ.tm a) (o : Oper) (hL : LoadsAt w β σ o.op) {v : Value} {c : Prop} (h : stQ E σ.mem (opn σ.tm) o.op = some (v, c)) (hc : c) : (execOp a.eval o).run P w = .ok (.value (rn β v)) w ∨ (callB o.op = true ∧ ∃ f args, (execOp a.eval o).run P w = .ok (.enter f args) w ∧ Calls P f args w (fun e w'' => e = .returned (rn β v) ∧ Below w.heap.size w w'')) := by
  have hE:∀ x,opk x=true→np (opn σ.tm x)=true→a.eval x=opn σ.tm x:=fun x h1 h2=>R.evn h1 h2
  have viaU:nps (E.U o.op (opn σ.tm))=some (v,c)→(execOp a.eval o).run P w= .ok (.value (rn β v)) w:=fun h=>by
    obtain⟨h,hn⟩:=nps_ok h
    rw[E.hU o _ _ v c h hc hE w,rn_np hn]
  obtain⟨dst,op,ty,pos,after,guard⟩:=o
  simp only at h viaU
  cases op
  case move x =>
    refine .inl ?_
    simp only[stQ] at h
    split at h
    · rename_i hk
      simp only[Option.some.injEq,Prod.mk.injEq] at h
      rw[← h.1,← R.ev hk]
      rfl
    · cases h
  case assign x =>
    refine .inl ?_
    simp only[stQ] at h
    split at h
    · rename_i hk
      simp only[Option.some.injEq,Prod.mk.injEq] at h
      rw[← h.1,← R.ev hk]
      rfl
    · cases h
  case pick k x y =>
    refine .inl ?_
    simp only[stQ] at h
    split at h
    · rename_i hk
      simp only[Bool.and_eq_true] at hk
      split at h
      · rename_i e
        simp only[Option.some.injEq,Prod.mk.injEq] at h
        have:=R.evn hk.1.1 (by rw[e];rfl)
        rw[← h.1,← R.ev hk.1.2]
        simp only[execOp,this,e,asBool,Sem.run_bind,Sem.run_pure,Result.andThen_ok]
        try rfl
      · rename_i e
        simp only[Option.some.injEq,Prod.mk.injEq] at h
        have:=R.evn hk.1.1 (by rw[e];rfl)
        rw[← h.1,← R.ev hk.2]
        simp only[execOp,this,e,asBool,Sem.run_bind,Sem.run_pure,Result.andThen_ok]
        try rfl
      · cases h
    · cases h
  case extract x i =>
    refine .inl ?_
    simp only[stQ] at h
    split at h
    · rename_i hk
      split at h
      · rename_i vs e
        split at h
        · rename_i u hu
          split at h
          · rename_i hn
            simp only[Option.some.injEq,Prod.mk.injEq] at h
            have:=R.evn hk (by rw[e];rfl)
            rw[← h.1,rn_np hn]
            simp only[execOp,this,e,Instr.extract,hu,Sem.run_bind,Sem.run_pure,Result.andThen_ok]
            try rfl
          · cases h
        · cases h
      · cases h
    · cases h
  case unOp u t x =>
    refine .inl ?_
    cases u<;>try exact viaU h
    simp only[stQ] at h
    split at h
    · rename_i hk
      split at h
      · rename_i b e
        simp only[Option.some.injEq,Prod.mk.injEq] at h
        have:=R.evn hk (by rw[e];rfl)
        rw[← h.1]
        simp only[execOp,this,e,Op.unary,Sem.run_bind,Sem.run_pure,Result.andThen_ok]
        try rfl
      · cases h
    · cases h
  case fieldAddr t x f =>
    refine .inl ?_
    simp only[stQ] at h
    split at h
    · rename_i hk
      split at h
      · rename_i i o e
        split at h
        · rename_i off hF
          simp only[Option.some.injEq,Prod.mk.injEq] at h
          have:=R.ev hk
          rw[e] at this
          rw[← h.1]
          simp only[rn] at this ⊢
          simp only[execOp,this,E.hF t f off hF,Sem.run_bind,Sem.run_pure,Result.andThen_ok]
          try rfl
        · cases h
      · cases h
    · cases h
  case indexAddr t x i =>
    refine .inl ?_
    simp only[stQ] at h
    split at h
    · rename_i hk
      simp only[Bool.and_eq_true] at hk
      split at h
      · rename_i b o q j e1 e2
        split at h
        · rename_i n k hI
          simp only[Option.some.injEq,Prod.mk.injEq] at h
          obtain⟨rfl,rfl⟩:=h
          have hx:=R.evg hk.1
          rw[e1] at hx
          have hi:=R.evn hk.2 (by rw[e2];rfl)
          rw[e2] at hi
          simp only[rn] at hx ⊢
          simp only[execOp,hx,hi,E.hI t n k hI _ _ _ _ w hc.1 hc.2,Sem.run_bind,Sem.run_pure,Result.andThen_ok]
          try rfl
        · cases h
      · rename_i b o len cap q j e1 e2
        split at h
        · rename_i k hI
          simp only[Option.some.injEq,Prod.mk.injEq] at h
          obtain⟨rfl,rfl⟩:=h
          have hx:=R.evg hk.1
          rw[e1] at hx
          have hi:=R.evn hk.2 (by rw[e2];rfl)
          rw[e2] at hi
          simp only[rn] at hx ⊢
          simp only[execOp,hx,hi,E.hIS t k hI _ _ _ _ _ _ w hc.1 hc.2,Sem.run_bind,Sem.run_pure,Result.andThen_ok]
          try rfl
        · cases h
      · cases h
    · cases h
  case slice t x lo hi mx =>
    refine .inl ?_
    simp only[stQ] at h
    split at h
    · rename_i hk
      simp only[Bool.and_eq_true] at hk
      have opt : ∀ (q : Option Operand) (d m : Nat), optk q = true → bnd (q.map (opn σ.tm)) d = some m → q.map a.eval = q.map (opn σ.tm) := fun q d m hq hb => by
        cases q with
        |none=>rfl
        | some y =>
          have:np (opn σ.tm y)=true:=by
            simp only[Option.map_some] at hb
            unfold bnd at hb
            split at hb
            · rename_i e;cases e
            · rename_i e;injection e with e;rw[e];rfl
            · cases hb
          simp only[Option.map_some,hE y hq this]
      have em:mx=none:=by simpa using hk.2
      subst em
      have hx:=R.ev hk.1.1.1
      split at h
      · rename_i b o n k e1 e2
        split at h
        · rename_i l r hl hr
          split at h
          · rename_i hc2
            simp only[Option.some.injEq,Prod.mk.injEq] at h
            rw[e1] at hx
            simp only[rn] at hx
            rw[← h.1]
            simp only[execOp,hx,opt lo _ _ hk.1.1.2 hl,opt hi _ _ hk.1.2 hr,Option.map_none,E.hS t n k e2 _ _ _ _ _ _ w hl hr hc2.1 hc2.2.1 hc2.2.2,Sem.run_bind,Sem.run_pure,Result.andThen_ok]
            try rfl
          · cases h
        · cases h
      · rename_i b o len cap e1
        split at h
        · rename_i k l c1 r c2 e2 hl hr
          simp only[Option.some.injEq,Prod.mk.injEq] at h
          obtain⟨rfl,rfl⟩:=h
          obtain⟨⟨k1,k2⟩,k3,k4⟩:=hc
          have hl':=bnI_ok hl k1
          have hr':=bnI_ok hr k2
          rw[e1] at hx
          simp only[rn] at hx
          have ha : (if cap = l then some (⟨β b, o, none⟩ : Addr) else (some (⟨β b, o, none⟩ : Addr)).map (·.add (l * k))) = some ⟨β b, if cap = l then o else o + l * k, none⟩ := by
            by_cases q:cap=l
            · rw[if_pos q,if_pos q]
            · rw [if_neg q, if_neg q]
              simp only[Option.map_some,Option.some.injEq]
              unfold Addr.add
              split<;>simp_all
          simp only[execOp,hx,opt lo _ _ hk.1.1.2 hl',opt hi _ _ hk.1.2 hr',Option.map_none,E.hSL t k e2 _ _ _ _ _ _ _ w hl' hr' k3 k4,ha,Sem.run_bind,Sem.run_pure,Result.andThen_ok]
          try rfl
        · cases h
      · rename_i len cap e1
        split at h
        · rename_i k l c1 r c2 e2 hl hr
          simp only[Option.some.injEq,Prod.mk.injEq] at h
          obtain⟨rfl,rfl⟩:=h
          obtain⟨⟨k1,k2⟩,k3,k4⟩:=hc
          have hl':=bnI_ok hl k1
          have hr':=bnI_ok hr k2
          rw[e1] at hx
          simp only[rn] at hx
          have ha:(if cap=l then(none:Option Addr) else(none:Option Addr).map (·.add (l*k)))=none:=by split<;>rfl
          simp only[execOp,hx,opt lo _ _ hk.1.1.2 hl',opt hi _ _ hk.1.2 hr',Option.map_none,E.hSL t k e2 _ _ _ _ _ _ _ w hl' hr' k3 k4,Sem.run_bind,Sem.run_pure,Result.andThen_ok]
          first|rfl|(simp only[Option.map_none] at ha;rw[ha];rfl)|simp[rn]
        · cases h
      · cases h
    · cases h
  case load t x =>
    refine .inl ?_
    simp only[stQ] at h
    split at h
    · rename_i hk
      split at h
      · rename_i i o e
        have hx:=R.ev hk
        rw[e] at hx
        simp only[rn] at hx
        split at h
        · rename_i cs tt hm
          have hh:=hL.1 t x i o (cs,tt) rfl e hm
          split at h
          · rename_i k hA
            split at h
            · rename_i hs
              obtain⟨rfl,hs⟩:=hs
              simp only[Option.some.injEq,Prod.mk.injEq] at h
              rw[← h.1]
              simp only[execOp,hx,Instr.loadAt,Instr.sureAddr,Sem.run_bind,Sem.run_pure,Result.andThen_ok,(E.hA t k hA).load w _ tt.1 cs hh hs]
              try rfl
            · split at h
              · rename_i hs
                simp only[Option.some.injEq,Prod.mk.injEq] at h
                rw[← h.1]
                simp only[execOp,hx,Instr.loadAt,Instr.sureAddr,Sem.run_bind,Sem.run_pure,Result.andThen_ok,(E.hA t k hA).loadM w _ o tt.1 cs _ hh hs rfl]
                try rfl
              · cases h
          · split at h
            · rename_i hO
              split at h
              · rename_i u hu
                split at h
                · rename_i hn
                  simp only[Option.some.injEq,Prod.mk.injEq] at h
                  obtain⟨d,hd1,hd2⟩:=(E.hO t hO).one
                  rw[← h.1,rn_np hn]
                  simp only[execOp,hx,Instr.loadAt,Instr.sureAddr,Sem.run_bind,Sem.run_pure,Result.andThen_ok,run_loadVar_one w _ o tt.1 t cs d u hh hu hd1 hd2]
                  try rfl
                · cases h
              · cases h
            · cases h
        · cases h
      · cases h
    · cases h
  case convert s d x =>
    refine .inl ?_
    simp only[stQ] at h
    split at h
    · rename_i hk
      split at h
      · rename_i b o l cp e
        split at h
        · rename_i cs tt hm
          split at h
          · rename_i hcv
            simp only[Option.some.injEq,Prod.mk.injEq] at h
            obtain⟨rfl,rfl⟩:=h
            obtain⟨h8,hsz⟩:=hc
            obtain⟨el,q1,q2,q3⟩:=E.hCV s d hcv
            have hh:=hL.2.2 s d x b o l cp (cs,tt) rfl e hm
            have hx:=R.ev hk
            rw[e] at hx
            simp only[rn] at hx
            have hlen:((cs.extract o (o+l)).toList.map u8v).length=l:=by
              rw[List.length_map,Array.length_toList,Array.size_extract];omega
            have hr := run_convert_bytes_back (P := P) w s d el ⟨β b, o, none⟩ cp ((cs.extract o (o + l)).toList.map u8v) q1 q2 q3 (fun j hj => by
              have hj':j<l:=by rw[hlen] at hj;exact hj
              have ha:(⟨β b,o,none⟩:Addr).add j=⟨β b,o+j,none⟩:=by unfold Addr.add;split<;>simp_all
              have hg:(cs.extract o (o+l))[j]? =some cs[o+j]:=by
                rw[Array.getElem?_extract_of_lt (by omega)]
              have h1:isB8 cs[o+j]=true:=by
                have:=Array.all_eq_true'.1 h8 cs[o+j] (Array.mem_of_getElem? hg)
                simpa using this
              rw[ha,cell_of_row w (β b) (o+j) cs tt.1 _ hh]
              have h2 : ((cs.extract o (o + l)).toList.map u8v)[j] = u8v cs[o + j] := by
                have:((cs.extract o (o+l)).toList.map u8v)[j]? =some (u8v cs[o+j]):=by
                  rw[List.getElem?_map,Array.getElem?_toList,hg];rfl
                rw[List.getElem?_eq_getElem hj] at this
                exact Option.some.inj this
              rw[h2,Array.getElem?_eq_getElem (by omega)]
              exact congrArg some (b8_ok h1))
            rw[hlen] at hr
            simp only[execOp,hx,hr,Sem.run_bind,Sem.run_pure,Result.andThen_ok,rn]
            rfl
          · cases h
        · cases h
      · rename_i e
        split at h
        · rename_i hcv
          simp only[Option.some.injEq,Prod.mk.injEq] at h
          obtain⟨rfl,rfl⟩:=h
          obtain⟨el,q1,q2,q3⟩:=E.hCV s d hcv
          have hx:=R.ev hk
          rw[e] at hx
          simp only[rn] at hx
          have hr:(convert s d (.slice none 0 0)).run P w= .ok (.string (bstr #[])) w:=by
            rw[run_convert_bytes_string w s d el none 0 0 q1 q2 q3];rfl
          simp only[execOp,hx,hr,Sem.run_bind,Sem.run_pure,Result.andThen_ok,rn]
        · cases h
      · exact viaU h
    · cases h
  case build t ps =>
    refine .inl ?_
    simp only[stQ] at h
    split at h
    · rename_i hk
      split at h
      · rename_i cs hb
        simp only[Option.some.injEq,Prod.mk.injEq] at h
        have e:(ps.map fun(i,x)=>(i,a.eval x))=(ps.map fun(i,x)=>(i,opn σ.tm x)):=by
          apply Array.map_congr_left
          intro p hp
          have:=List.all_eq_true.1 hk p (by simpa using hp)
          simp only[Bool.and_eq_true] at this
          obtain⟨i,x⟩:=p
          show(i,a.eval x)=(i,opn σ.tm x)
          rw[hE x this.1 this.2]
        rw[← h.1]
        simp only[execOp,e,run_build w t _ cs hb,Sem.run_bind,Sem.run_pure,Result.andThen_ok]
        try rfl
      · cases h
    · cases h
  case call cl =>
    obtain⟨callee,as,ts⟩:=cl
    cases callee with
    | value x =>
      cases x with
      | func f =>
        simp only[stQ] at h
        split at h
        · rename_i hk
          obtain⟨h,hn⟩:=nps_ok h
          have e:as.map a.eval=((as.toList.map (opn σ.tm)).map (rn β)).toArray:=by
            rw[List.map_map,← List.map_toArray]
            apply Array.map_congr_left
            intro x hx
            exact R.ev (List.all_eq_true.1 hk x (by simpa using hx))
          have hr:(execOp a.eval ⟨dst,.call ⟨.value (.func f),as,ts⟩,ty,pos,after,guard⟩).run P w= .ok (.enter f (as.map a.eval)) w:=by
            have h2:=E.hC f _ _ v c h
            go_simp
          rw[hr,e,rn_np hn]
          exact .inr ⟨rfl,f,_,rfl,E.hT f _ _ v c h hc w β (hL.2.1 rfl) R.gl⟩
        · cases h
      | tmp t =>
        simp only[stQ] at h
        split at h
        · rename_i hk
          split at h
          · rename_i f first captured ef
            split at h
            · rename_i h0
              obtain⟨hf0,hc0⟩:=h0
              have hf0:first= #[]:=Array.eq_empty_of_size_eq_zero hf0
              have hc0:captured= #[]:=Array.eq_empty_of_size_eq_zero hc0
              subst hf0 hc0
              obtain⟨h,hn⟩:=nps_ok h
              have e:as.map a.eval=((as.toList.map (opn σ.tm)).map (rn β)).toArray:=by
                rw[List.map_map,← List.map_toArray]
                apply Array.map_congr_left
                intro x hx
                exact R.ev (List.all_eq_true.1 hk x (by simpa using hx))
              have et:a.eval (.tmp t)= .func (.func f) #[] #[]:=by
                have:=hE (.tmp t) rfl (by rw[ef];rfl)
                rw[this,ef]
              have hr0:(execOp a.eval ⟨dst,.call ⟨.value (.func f),as,ts⟩,ty,pos,after,guard⟩).run P w= .ok (.enter f (as.map a.eval)) w:=by
                have h2:=E.hC f _ _ v c h
                go_simp
              have hsame:execOp a.eval ⟨dst,.call ⟨.value (.tmp t),as,ts⟩,ty,pos,after,guard⟩=execOp a.eval ⟨dst,.call ⟨.value (.func f),as,ts⟩,ty,pos,after,guard⟩:=by
                unfold execOp resolve
                simp only[et]
                rfl
              have hr:(execOp a.eval ⟨dst,.call ⟨.value (.tmp t),as,ts⟩,ty,pos,after,guard⟩).run P w= .ok (.enter f (as.map a.eval)) w:=by rw[hsame];exact hr0
              rw[hr,e,rn_np hn]
              exact .inr ⟨rfl,f,_,rfl,E.hT f _ _ v c h hc w β (hL.2.1 rfl) R.gl⟩
            · cases h
          · cases h
        · cases h
      |_=>exact .inl (viaU h)
    | builtin bi =>
      cases bi
      case len =>
        refine .inl ?_
        simp only[stQ] at h
        split at h
        · rename_i x t e1 e2
          have e1:as= #[x]:=Array.ext' (by rw[e1])
          have e2:ts= #[t]:=Array.ext' (by rw[e2])
          subst e1 e2
          split at h
          · rename_i hk
            split at h
            · rename_i bs l cp k e eI
              obtain⟨el,hu⟩:=E.hIU t k eI
              simp only[Option.some.injEq,Prod.mk.injEq] at h
              have hx:=R.ev hk
              rw[e] at hx
              obtain⟨bs',hx⟩:∃ bs',a.eval x= .slice bs' l cp:=by
                rw[hx]
                cases bs with
                |none=>exact⟨none,rfl⟩
                | some q =>
                  obtain⟨i,o,s⟩:=q
                  cases s with
                  |none=>exact⟨_,rfl⟩
                  |some s=>exact⟨_,rfl⟩
              rw[← h.1]
              have:∀ q ty',invoke (.builtin .len #[t] ty' q) #[.slice bs' l cp]=(do pure (.value (← Builtin.len_ #[t] ty' #[.slice bs' l cp]))):=fun q ty'=>rfl
              unfold execOp resolve
              simp only[List.map_toArray,List.map_cons,List.map_nil,hx,Sem.run_bind,Sem.run_pure,Result.andThen_ok]
              rw[this]
              simp[Builtin.len_,run_underlying hu,goInt,rn]
            · cases h
          · cases h
        · cases h
      all_goals exact .inl (viaU h)
    |invoke x m=>exact .inl (viaU h)
  all_goals exact .inl (viaU h)
theorem ldT_ok {w : World} {β : Nat → Nat} {σ : Sy} {a : Act} (R : Rt E.fk β σ.tm a) (o : Oper) (hL : LoadsAt w β σ o.op) {ch : List (Option Value)} {v : Value} {c : Prop} (h : ldT E σ.mem (opn σ.tm) o.op ch = some (v, c)) (hc : c) : (execOp a.eval o).run P w = .ok (.value (rn β v)) w := by
  obtain⟨dst,op,ty,pos,after,guard⟩:=o
  unfold ldT at h
  split at h
  · rename_i t x k m rest e
    simp only at e
    subst e
    split at h
    · rename_i hk
      simp only[Bool.and_eq_true] at hk
      split at h
      · rename_i i off e
        have hx:=R.ev hk.1.1
        rw[e] at hx
        simp only[rn] at hx
        split at h
        · rename_i cs tt hm
          simp only[Option.some.injEq,Prod.mk.injEq] at h
          obtain⟨rfl,rfl⟩:=h
          have hh:=hL.1 t x i off (cs,tt) rfl e hm
          obtain⟨d,hd1,hd2⟩:=(E.hO t hk.1.2).one
          simp only[execOp,hx,Instr.loadAt,Instr.sureAddr,Sem.run_bind,Sem.run_pure,Result.andThen_ok,run_loadVar_one w _ off tt.1 t cs d _ hh hc hd1 hd2,rn]
          try rfl
        · cases h
      · cases h
    · cases h
  · rename_i t x ms rest e
    simp only at e
    subst e
    split at h
    · rename_i hk
      split at h
      · rename_i i off k m e hA _
        have hx:=R.ev hk
        rw[e] at hx
        simp only[rn] at hx
        split at h
        · rename_i cs tt hm
          simp only[Option.some.injEq,Prod.mk.injEq] at h
          obtain⟨rfl,rfl⟩:=h
          obtain⟨hc,hs⟩:=hc
          have hh:=hL.1 t x i off (cs,tt) rfl e hm
          subst hc
          simp only[execOp,hx,Instr.loadAt,Instr.sureAddr,Sem.run_bind,Sem.run_pure,Result.andThen_ok,(E.hA t k hA).loadM w _ off tt.1 cs _ hh hs rfl]
          try rfl
        · cases h
      · cases h
    · cases h
  · cases h
theorem stT_okL {w:World} {β:Nat→Nat} {σ:Sy} {a:Act} (R:Rt E.fk β σ.tm a) (o:Oper) (hL:LoadsAt w β σ o.op) {ch:List (Option Value)} {v:Value} {c:Prop} (h:stT E σ.mem (opn σ.tm) o.op ch=some (v,c)) (hc:c):(execOp a.eval o).run P w= .ok (.value (rn β v)) w∨(callB o.op=true∧∃ f args,(execOp a.eval o).run P w= .ok (.enter f args) w∧Calls P f args w (fun e w''=>e= .returned (rn β v)∧Below w.heap.size w w'')):=by
  unfold stT at h
  split at h
  · rename_i r hr
    simp only[Option.some.injEq] at h
    subst h
    exact .inl (ldT_ok R o hL hr hc)
  · exact stQ_okL R o hL h hc
end
end Go.Ev

set_option linter.unusedSimpArgs false
set_option linter.unusedVariables false
namespace Go.Ev
open Go.RowKit Go.Calm
section
variable {P:Program} (E:En P)
def newV (σ:Sy) (d:Option Tmp) (v:Value) (cs:Array Value) (t:TypeId):Sy:=⟨putS σ.tm d v,σ.mem ++ [(cs,t,(0,0))],σ.c,σ.ch⟩
def newS (σ:Sy) (d:Option Tmp) (cs:Array Value) (t:TypeId):Sy:=⟨putS σ.tm d (.pointer (some ⟨σ.mem.length,0,none⟩)),σ.mem ++ [(cs,t,(0,0))],σ.c,σ.ch⟩
def stS (mem : List Mb) (t : TypeId) (x y : Value) (tc : Option (Array Value)) : Option (Nat × Mb × Prop) :=
  match x with
  | .pointer (some ⟨i, o, none⟩) => if E.fk % big ≤ i then (match mem[i]? with
    | some (old, tt, (0, 0)) => (match E.A t with
      | some k => (match y with
        | .agg cs=>if k=cs.size then(match tc with
            |some cs'=>some (i,(cs',tt,(0,0)),(o+cs.size≤old.size∧Calm.splice old o cs=cs'∧cs.all (·.oneCell')=true))
            |none=>if o=0∧k=old.size then some (i,(cs,tt,(0,0)),cs.all (·.oneCell')=true)
            else if o+cs.size≤old.size then some (i,(Calm.splice old o cs,tt,(0,0)),cs.all (·.oneCell')=true) else none) else none
        |_=>none)
      | none => if E.O t then (match tc with
        |some cs=>if np y=true∧y.oneCell'=true then some (i,(cs,tt,(0,0)),(o<old.size∧old.setIfInBounds o y=cs)) else none
        |none=>if o<old.size∧np y=true∧y.oneCell'=true then some (i,(old.setIfInBounds o y,tt,(0,0)),True) else none) else none)
    |_=>none) else none
  |_=>none
def tellS:List (Option Value)→Option (Array Value)
  |some (.agg cs) :: _=>some cs
  |_=>none
def restS:List (Option Value)→List (Option Value)
  |some (.agg _) :: r=>r
  |l=>l
def mvB:Op→Bool
  | .move (.tmp _)=>true
  | .assign (.tmp _)=>true
  |_=>false
def quS (σ:Sy) (o:Oper):Option Sy:=
  match stT E σ.mem (opn σ.tm) o.op σ.ch with
  |some r=>if mvB o.op || okp σ.mem.length (choose o.op r σ.ch).1 then some ⟨putS σ.tm o.dst (choose o.op r σ.ch).1,σ.mem,σ.c∧(choose o.op r σ.ch).2.1,(choose o.op r σ.ch).2.2⟩ else none
  |none=>none
def stC (mem : List Mb) (dT : TypeId) (u v : Value) (tc : Option (Array Value)) : Option (Nat × Mb × Nat × Prop) := match u, v with
  | .slice (some ⟨i, o, none⟩) dl _, .slice (some ⟨j, p, none⟩) sl _ => (match mem[i]?, mem[j]? with
    | some (old, tt, (0, 0)), some (src, _) => (match tc with
      |some cs=>if E.CP dT=true∧E.fk%big≤i then some (i,(cs,tt,(0,0)),Nat.min sl dl,((o+Nat.min sl dl≤old.size∧p+Nat.min sl dl≤src.size)∧(src.extract p (p+Nat.min sl dl)).all (·.oneCell')=true∧Calm.splice old o (src.extract p (p+Nat.min sl dl))=cs)) else none
      | none => if E.CP dT = true ∧ E.fk % big ≤ i ∧ o + Nat.min sl dl ≤ old.size ∧ p + Nat.min sl dl ≤ src.size then
        some (i,(Calm.splice old o (src.extract p (p+Nat.min sl dl)),tt,(0,0)),Nat.min sl dl,((src.extract p (p+Nat.min sl dl)).all (·.oneCell')=true)) else none)
    |_,_=>none)
  | .slice (some ⟨i, _, none⟩) _ _, .slice none 0 0 => (match mem[i]? with
    |some x=>if E.CP dT=true then some (i,x,0,True) else none
    |none=>none)
  |_,_=>none
def zOp:Operand→Operand→Bool
  | .const _,.tmp _=>true
  |_,_=>false
def stP (σ : Sy) (o : Oper) : Option Sy :=
  match o.op with
  | .alloc t=>if Nat.blt (σ.mem.length+1) big then(match E.Z t with|some cs=>some (newS σ o.dst cs t)|none=>none) else none
  | .box t x=>if opk x && Nat.blt (σ.mem.length+1) big then(match opn σ.tm x with| .agg cs=>some (newS σ o.dst cs t)|_=>none) else none
  | .buildSlice t len ps=>if ps.toList.all (fun p=>opk p.2 && np (opn σ.tm p.2)) && Nat.blt (σ.mem.length+1) big then(match E.BS t len (ps.map fun(i,x)=>(i,opn σ.tm x)).toList with
      |some (e,cs)=>some (newV σ o.dst (.slice (some ⟨σ.mem.length,0,none⟩) len len) cs e)
      |none=>none) else none
  | .makeSlice t l c=>if opk l && opk c && Nat.blt (σ.mem.length+1) big then(match opn σ.tm l,opn σ.tm c,E.MK t with
      | .int _ n,.int _ m,some (e,z,k,b)=>if zOp l c then some ⟨putS σ.tm o.dst (.slice (some ⟨σ.mem.length,0,none⟩) 0 m.toNat),σ.mem ++ [(madeCells z (m.toNat*k),e,(0,0))],σ.c∧(n=0∧0≤m∧b*m.toNat≤281474976710656∧m.toNat≤9223372036854775807),σ.ch⟩ else some ⟨putS σ.tm o.dst (.slice (some ⟨σ.mem.length,0,none⟩) n.toNat n.toNat),σ.mem ++ [(madeCells z (n.toNat*k),e,(0,0))],σ.c∧(0≤n∧n=m∧b*n.toNat≤281474976710656∧n.toNat≤9223372036854775807),σ.ch⟩
      |_,_,_=>none) else none
  | .store t x y=>if opk x && opk y then(match stS E σ.mem t (opn σ.tm x) (opn σ.tm y) (tellS σ.ch) with
      |some (i,cs,c)=>some ⟨putS σ.tm o.dst undef,σ.mem.set i cs,σ.c∧c,restS σ.ch⟩
      |none=>none) else none
  | .call { callee:= .builtin .copy,args:=as,argTypes:=ts }=>(match as.toList,ts.toList with
      | [x, y], [dT, _] => if opk x && opk y then (match stC E σ.mem dT (opn σ.tm x) (opn σ.tm y) (tellS σ.ch) with
        |some (i,cs,n,c)=>some ⟨putS σ.tm o.dst (.int .i64 n),σ.mem.set i cs,σ.c∧c,restS σ.ch⟩
        |none=>none) else none
      |_,_=>none)
  |_=>quS E σ o
def stM (σ : Sy) (o : Oper) : Option Sy := match o.op with
  | .call { callee:= .value (.func f),args:=as,argTypes:=_ }=>if as.toList.all (fun x=>opk x) && Nat.blt (σ.mem.length+1) big then(match E.M f σ.mem (as.toList.map (opn σ.tm)) with
      |some (cs,t,n,k,c)=>some ⟨putS σ.tm o.dst (.slice (some ⟨σ.mem.length,0,none⟩) n k),σ.mem ++ [(cs,t,(0,0))],σ.c∧c,σ.ch⟩
      |none=>stP E σ o) else stP E σ o
  | .convert s d x=>if opk x && E.CI s d then(match opn σ.tm x with
      | .slice (some ⟨i, p, none⟩) l c => if E.fk % big ≤ i then (match σ.mem[i]? with
        |some (cs,t,(0,0))=>some ⟨putS σ.tm o.dst (.slice (some ⟨i,p,none⟩) l c),σ.mem.set i (cs,t,(cs.size,cs.size+1)),σ.c,σ.ch⟩
        |_=>none) else none
      |_=>stP E σ o) else stP E σ o
  |_=>stP E σ o
def offS (σ:Sy) (o:Oper):Sy:=⟨putS σ.tm o.dst undef,σ.mem,σ.c,σ.ch⟩
def evL (ops:Array Oper):List Oper→Sy→Option Sy
  | [],σ=>some σ
  |o :: r,σ=>if Region.wanted o (yielded ops σ.tm.toArray) then(match stM E σ o with|some σ'=>evL ops r σ'|none=>none) else evL ops r (offS σ o)
def evH (ops:Array Oper) (al:List Nat):Nat→List Oper→Sy→Option Sy
  |_,[],σ=>some σ
  | k, o :: r, σ => if al.contains k then evH ops al (k + 1) r σ else
      if Region.wanted o (yielded ops σ.tm.toArray) then(match quS E σ o with|some σ'=>evH ops al (k+1) r σ'|none=>none) else evH ops al (k+1) r (offS σ o)
variable {E}
theorem Rl.off {fk:Nat} {w0 W:World} {β:Nat→Nat} {σ:Sy} {a:Act} (R:Rl fk w0 W β σ a) (o:Oper):Rl fk w0 W β (offS σ o) (a.put o.dst undef):=R.put o.dst (v:=undef) rfl _ _
theorem Rl.new {fk:Nat} {w0 W:World} {β:Nat→Nat} {σ:Sy} {a:Act} (R:Rl fk w0 W β σ a) (d:Option Tmp) {W':World} {b:Nat} {cs:Array Value} {t:TypeId} (M:Rp fk w0 W' (upd β σ.mem.length b) (σ.mem ++ [(cs,t,(0,0))])):Rl fk w0 W' (upd β σ.mem.length b) (newS σ d cs t) (a.put d (.pointer (some ⟨b,0,none⟩))):=by
  have hb:∀ v ∈ σ.tm,rn β v=rn (upd β σ.mem.length b) v:=fun v hv=>rn_ext (upd_ext R.m.lt) (R.ok v hv)
  have R':Rl fk w0 W' (upd β σ.mem.length b) ⟨σ.tm,σ.mem ++ [(cs,t,(0,0))],σ.c,σ.ch⟩ a:=⟨M,by rw[R.t];congr 1;exact List.map_congr_left hb,R.d,fun v hv=>okp_mono (by simp) (R.ok v hv)⟩
  have:=R'.put d (v:= .pointer (some ⟨σ.mem.length,0,none⟩)) (by simp[okp]) σ.c σ.ch
  simp only[rn,upd_new] at this
  exact this
theorem Rl.newV {fk:Nat} {w0 W:World} {β:Nat→Nat} {σ:Sy} {a:Act} (R:Rl fk w0 W β σ a) (d:Option Tmp) {W':World} {b:Nat} {cs:Array Value} {t:TypeId} (l c:Nat) (M:Rp fk w0 W' (upd β σ.mem.length b) (σ.mem ++ [(cs,t,(0,0))])) (q:Prop):Rl fk w0 W' (upd β σ.mem.length b) ⟨putS σ.tm d (.slice (some ⟨σ.mem.length,0,none⟩) l c),σ.mem ++ [(cs,t,(0,0))],q,σ.ch⟩ (a.put d (.slice (some ⟨b,0,none⟩) l c)):=by
  have hb:∀ v ∈ σ.tm,rn β v=rn (upd β σ.mem.length b) v:=fun v hv=>rn_ext (upd_ext R.m.lt) (R.ok v hv)
  have R':Rl fk w0 W' (upd β σ.mem.length b) ⟨σ.tm,σ.mem ++ [(cs,t,(0,0))],σ.c,σ.ch⟩ a:=⟨M,by rw[R.t];congr 1;exact List.map_congr_left hb,R.d,fun v hv=>okp_mono (by simp) (R.ok v hv)⟩
  have:=R'.put d (v:= .slice (some ⟨σ.mem.length,0,none⟩) l c) (by simp[okp]) q σ.ch
  simp only[rn,upd_new] at this
  exact this
theorem upon_of {W:World} {v:Value} {o:Op} {r:Result Next} (h:r= .ok (.value v) W∨(callB o=true∧∃ f args,r= .ok (.enter f args) W∧Calls P f args W (fun e w''=>e= .returned v∧Below W.heap.size W w''))):Calm.upon P W v r:=by
  rcases h with rfl|⟨_,f,args,rfl,h⟩
  · exact⟨rfl,rfl⟩
  · exact⟨rfl,h⟩
theorem choose_mv {x:Operand} {v:Value} {c:Prop} {ch:List (Option Value)}:(choose (.move x) (v,c) ch).1=v∧(choose (.assign x) (v,c) ch).1=v:=by
  constructor<;>(unfold choose;cases v<;>simp[chooses,tells])
theorem okp_tm {n:Nat} {tm:List Value} (h:∀ v ∈ tm,okp n v=true) (t:Nat):okp n (tm.getD t undef)=true:=by
  rw[List.getD_eq_getElem?_getD]
  cases e:tm[t]? with
  |none=>rfl
  |some v=>exact h v (List.mem_of_getElem? e)
theorem mv_ok {σ:Sy} {o:Op} {r:Value×Prop} (hm:mvB o=true) (h:stT E σ.mem (opn σ.tm) o σ.ch=some r) (hok:∀ v ∈ σ.tm,okp σ.mem.length v=true):okp σ.mem.length (choose o r σ.ch).1=true:=by
  unfold mvB at hm
  split at hm
  · rename_i t
    have e:stT E σ.mem (opn σ.tm) (.move (.tmp t)) σ.ch=some (opn σ.tm (.tmp t),True):=rfl
    rw[e] at h
    cases h
    rw[choose_mv.1]
    exact okp_tm hok t
  · rename_i t
    have e:stT E σ.mem (opn σ.tm) (.assign (.tmp t)) σ.ch=some (opn σ.tm (.tmp t),True):=rfl
    rw[e] at h
    cases h
    rw[choose_mv.2]
    exact okp_tm hok t
  · cases hm
theorem quS_allL {β : Nat → Nat} {σ σ' : Sy} {o : Oper} (h : quS E σ o = some σ') (hc : σ'.c) : σ.c ∧ ∃ v, (∀ w0 W a, Rl E.fk w0 W β σ a → Rl E.fk w0 W β σ' (a.put o.dst v)) ∧ σ'.mem = σ.mem ∧ ∀ W a, Rt E.fk β σ.tm a → LoadsAt W β σ o.op → (execOp a.eval o).run P W = .ok (.value v) W ∨ (callB o.op = true ∧ ∃ f args, (execOp a.eval o).run P W = .ok (.enter f args) W ∧ Calls P f args W (fun e w'' => e = .returned v ∧ Below W.heap.size W w'')) := by
  unfold quS at h
  split at h
  · rename_i r hr
    split at h
    · rename_i hk
      simp only[Option.some.injEq] at h
      subst h
      obtain⟨h1,h2⟩:=hc
      obtain⟨h3,h4⟩:=choose_ok _ _ _ h2
      obtain⟨v,c⟩:=r
      refine⟨h1,rn β v,fun w0 W a R=> ?_,rfl,fun W a R hL=>stT_okL R o hL hr h3⟩
      have hk:okp σ.mem.length (choose o.op (v,c) σ.ch).1=true:=by
        rcases Bool.or_eq_true _ _ ▸ hk with hk|hk
        · exact mv_ok hk hr R.ok
        · exact hk
      have:=R.put o.dst hk (σ.c∧(choose o.op (v,c) σ.ch).2.1) (choose o.op (v,c) σ.ch).2.2
      rw[h4] at this ⊢
      exact this
    · cases h
  · cases h
theorem quS_all {β:Nat→Nat} {σ σ':Sy} {o:Oper} (h:quS E σ o=some σ') (hc:σ'.c):σ.c∧∃ v,(∀ w0 W a,Rl E.fk w0 W β σ a→Rl E.fk w0 W β σ' (a.put o.dst v))∧σ'.mem=σ.mem∧∀ W a,Rv E.fk W β σ a→(execOp a.eval o).run P W= .ok (.value v) W∨(callB o.op=true∧∃ f args,(execOp a.eval o).run P W= .ok (.enter f args) W∧Calls P f args W (fun e w''=>e= .returned v∧Below W.heap.size W w'')):=by
  obtain⟨h1,v,h2,h3,h4⟩:=quS_allL (β:=β) h hc
  exact⟨h1,v,h2,h3,fun W a R=>h4 W a R.rt (loads_all R.has)⟩
theorem quS_ok {w0:World} {β:Nat→Nat} {σ σ':Sy} {o:Oper} (h:quS E σ o=some σ') (hc:σ'.c):σ.c∧∃ v,(∀ W a,Rl E.fk w0 W β σ a→Rl E.fk w0 W β σ' (a.put o.dst v))∧∀ W a,Rl E.fk w0 W β σ a→Calm.upon P W v ((execOp a.eval o).run P W):=by
  obtain⟨h1,v,h2,_,h3⟩:=quS_all (β:=β) h hc
  exact⟨h1,v,fun W a R=>h2 w0 W a R,fun W a R=>upon_of (h3 W a R.v)⟩
theorem wp_of_upon {W:World} {a:Act} {o:Oper} {v:Value} {K:Act→World→Prop} {Q:Exit→Act→World→Prop} (h:Calm.upon P W v ((execOp a.eval o).run P W)) (hK:∀ W',Below W.heap.size W W'→K (a.put o.dst v) W'):o.wp P a W K Q:=by
  unfold Oper.wp
  generalize(execOp a.eval o).run P W=r at h
  cases r with
  | ok n w' =>
    cases n with
    |value u=>obtain⟨rfl,rfl⟩:=h;exact hK _ (Below.refl _ _)
    |skip=>obtain⟨rfl,rfl⟩:=h;exact hK _ (Below.refl _ _)
    | enter f args =>
      obtain⟨rfl,h⟩:=h
      rw[Oper.upon_enter]
      refine h.mono ?_
      rintro e W' ⟨rfl,hb⟩
      exact hK _ hb
    |_=>exact h.elim
  |halt x w'=>exact h.elim
theorem Rl.below {fk:Nat} {w0 W W':World} {β:Nat→Nat} {σ:Sy} {a:Act} (R:Rl fk w0 W β σ a) (h:Below W.heap.size W W'):Rl fk w0 W' β σ a:=⟨R.m.call h,R.t,R.d,R.ok⟩
theorem evH_ok {ops : Array Oper} {al : List (Nat × Tmp)} {w0 W : World} {β : Nat → Nat} {K : Act → Prop} : ∀ (l : List Oper) (k : Nat) (σ σ' : Sy), evH E ops (al.map Prod.fst) k l σ = some σ' → σ'.c → σ.c ∧ ∀ a, Rl E.fk w0 W β σ a → (∀ a', Rl E.fk w0 W β σ' a' → K a') → walkR P ops W al K k l a
  | [], k, σ, σ', h, hc => by
    simp only[evH,Option.some.injEq] at h
    subst h
    exact⟨hc,fun a R hK=>hK a R⟩
  | o :: r, k, σ, σ', h, hc => by
    unfold evH at h
    split at h
    · rename_i hal
      obtain⟨h1,h2⟩:=evH_ok r (k+1) σ σ' h hc
      refine⟨h1,fun a R hK=> ?_⟩
      unfold walkR
      rw[if_pos hal]
      exact h2 a R hK
    · rename_i hal
      split at h
      · rename_i hw
        split at h
        · rename_i σ1 hq
          obtain⟨h1,h2⟩:=evH_ok (K:=K) (W:=W) (w0:=w0) (β:=β) r (k+1) σ1 σ' h hc
          obtain⟨h3,v,h4,h5⟩:=quS_ok (w0:=w0) (β:=β) hq h1
          refine⟨h3,fun a R hK=> ?_⟩
          unfold walkR
          rw[if_neg hal,if_pos (by rw[yielded_eq R];exact hw)]
          exact⟨v,fun w hb=>h5 w a (R.below hb),h2 _ (h4 W a R) hK⟩
        · cases h
      · rename_i hw
        obtain⟨h1,h2⟩:=evH_ok (K:=K) (W:=W) (w0:=w0) (β:=β) r (k+1) (offS σ o) σ' h hc
        refine⟨h1,fun a R hK=> ?_⟩
        unfold walkR
        rw[if_neg hal,if_neg (by rw[yielded_eq R];exact hw)]
        exact h2 _ (R.off o) hK
theorem stS_ok {w0 W : World} {β : Nat → Nat} {mem : List Mb} (R : Rp E.fk w0 W β mem) {t : TypeId} {x y : Value} {i : Nat} {cs : Mb} {c : Prop} {tc : Option (Array Value)} (h : stS E mem t x y tc = some (i, cs, c)) (hc : c) : ∃ W', (Instr.storeAt t (rn β x) (rn β y)).run P W = .ok () W' ∧ Rp E.fk w0 W' β (mem.set i cs) := by
  unfold stS at h
  split at h
  · rename_i j o
    split at h
    rotate_left
    · cases h
    rename_i hfk
    split at h
    · rename_i old tt hm
      have hh:=R.has j _ hm
      split at h
      · rename_i k hA
        split at h
        · rename_i cells
          split at h
          · rename_i hk
            split at h
            · simp only [Option.some.injEq, Prod.mk.injEq] at h
              obtain⟨rfl,rfl,rfl⟩:=h
              obtain⟨hs,rfl,hc⟩:=hc
              refine⟨W.setRow (β j) (Calm.splice old o cells),?_,R.store hfk hm _⟩
              simp only[rn,Instr.storeAt,Instr.sureAddr,Sem.run_bind,Sem.run_pure,Result.andThen_ok,run_storeVar_at (E.hA t k hA) W (β j) o tt old cells hh hk hs hc]
            split at h
            · rename_i hs
              obtain⟨rfl,hs⟩:=hs
              simp only[Option.some.injEq,Prod.mk.injEq] at h
              obtain⟨rfl,rfl,rfl⟩:=h
              refine⟨W.setRow (β j) cells,?_,R.store hfk hm cells⟩
              simp only[rn,Instr.storeAt,Instr.sureAddr,Sem.run_bind,Sem.run_pure,Result.andThen_ok,run_storeVar_row W (β j) tt t old cells hh (by rw[(E.hA t k hA).size,hk]) (by rw[← hs,hk]) hc]
            · split at h
              · rename_i hs
                simp only[Option.some.injEq,Prod.mk.injEq] at h
                obtain⟨rfl,rfl,rfl⟩:=h
                refine⟨W.setRow (β j) (Calm.splice old o cells),?_,R.store hfk hm _⟩
                simp only[rn,Instr.storeAt,Instr.sureAddr,Sem.run_bind,Sem.run_pure,Result.andThen_ok,run_storeVar_at (E.hA t k hA) W (β j) o tt old cells hh hk hs hc]
              · cases h
          · cases h
        · cases h
      · split at h
        · rename_i hO
          have fin : ∀ {y : Value}, o < old.size → np y = true → y.oneCell' = true → ∃ W', (Instr.storeAt t (rn β (.pointer (some ⟨j, o, none⟩))) (rn β y)).run P W = .ok () W' ∧ Rp E.fk w0 W' β (mem.set j (old.setIfInBounds o y, tt, (0, 0))) := fun {y} hlt hn h1 => by
            refine⟨W.setRow (β j) (old.setIfInBounds o y),?_,R.store hfk hm _⟩
            have hi:=(E.hO t hO).size
            rw[rn_np hn]
            cases hq:P.info? t with
            |none=>simp[hq] at hi
            | some inf =>
              have hs:inf.size=1:=by simpa[hq] using hi
              have hc:y.cells= #[y]:=by cases y<;>first|rfl|(simp[Value.oneCell'] at h1)
              have h2:W.cell? ⟨β j,o,none⟩=some old[o]:=by rw[cell_of_row W (β j) o old tt _ hh];simp[hlt]
              have h3:=frozen_of_row W (β j) o old tt hh
              rw[← setCell_eq_setRow W (β j) o old tt _ y hh]
              have hadd:(⟨β j,o,none⟩:Addr).add 0=⟨β j,o,none⟩:=by unfold Addr.add;split<;>simp_all
              have hst:=run_store P W ⟨β j,o,none⟩ y
              simp[rn,Instr.storeAt,Instr.sureAddr,storeVar,sizeOf,typeInfo,hq,hs,hc,storeCells,hadd,hst _ h1,h2,h3]
          split at h
          · split at h
            · rename_i hs
              obtain⟨hn,h1⟩:=hs
              simp only[Option.some.injEq,Prod.mk.injEq] at h
              obtain⟨rfl,rfl,rfl⟩:=h
              obtain⟨hlt,rfl⟩:=hc
              exact fin hlt hn h1
            · cases h
          · split at h
            · rename_i hs
              obtain⟨hlt,hn,h1⟩:=hs
              simp only[Option.some.injEq,Prod.mk.injEq] at h
              obtain⟨rfl,rfl,rfl⟩:=h
              exact fin hlt hn h1
            · cases h
        · cases h
    · cases h
  · cases h
theorem stC_ok {w0 W : World} {β : Nat → Nat} {mem : List Mb} (R : Rp E.fk w0 W β mem) {dT sT ty : TypeId} {u v : Value} {i n : Nat} {cs : Mb} {c : Prop} {tc : Option (Array Value)} (h : stC E mem dT u v tc = some (i, cs, n, c)) (hc : c) : ∃ W', (Builtin.copy_ #[dT, sT] ty #[rn β u, rn β v]).run P W = .ok (.int .i64 n) W' ∧ Rp E.fk w0 W' β (mem.set i cs) := by
  unfold stC at h
  split at h
  · rename_i i' o dl dc j p sl sc
    split at h
    · rename_i old tt src st hi hj
      have key : E.CP dT = true → E.fk % big ≤ i' → o + Nat.min sl dl ≤ old.size → p + Nat.min sl dl ≤ src.size → (src.extract p (p + Nat.min sl dl)).all (·.oneCell') = true → ∃ W', (Builtin.copy_ #[dT, sT] ty #[rn β (.slice (some ⟨i', o, none⟩) dl dc), rn β (.slice (some ⟨j, p, none⟩) sl sc)]).run P W = .ok (.int .i64 (Nat.min sl dl : Nat)) W' ∧ Rp E.fk w0 W' β (mem.set i' (Calm.splice old o (src.extract p (p + Nat.min sl dl)), tt, (0, 0))) := by
        intro hcp hfk h1 h2 hc
        obtain⟨e,hu,hs⟩:=E.hCP dT hcp
        have hd:=R.has i' _ hi
        have hsr:=R.has j _ hj
        have hlen:(src.extract p (p+Nat.min sl dl)).toList.length=Nat.min sl dl:=by
          rw[Array.length_toList,Array.size_extract]
          omega
        have:=run_copy_row (P:=P) W dT sT ty e (β i') o dl dc ⟨β j,p,none⟩ sl sc old tt (src.extract p (p+Nat.min sl dl)).toList hu hs hd hlen (fun q v hv=> ?_) (by rw[hlen];exact h1) (fun v hv=> ?_)
        · refine ⟨_, ?_, R.store hfk hi _⟩
          simp only[rn]
          rw[this,hlen]
          unfold Calm.splice
          have hsz:(src.extract p (p+Nat.min sl dl)).size=Nat.min sl dl:=by rw[← Array.length_toList];exact hlen
          rw[hsz]
          rfl
        · have hq : q < Nat.min sl dl := by
            have:=(List.getElem?_eq_some_iff.1 hv).1
            rw[hlen] at this;exact this
          have ha:(⟨β j,p,none⟩:Addr).add q=⟨β j,p+q,none⟩:=by unfold Addr.add;split<;>simp_all
          rw[ha,cell_of_row W (β j) (p+q) src st.1 _ hsr]
          rw[Array.getElem?_toList,Array.getElem?_extract_of_lt (by omega)] at hv
          rw[← hv,Array.getElem?_eq_getElem]
        · have := Array.all_eq_true'.1 hc v (Array.mem_toList_iff.1 hv)
          simpa using this
      split at h
      · split at h
        · rename_i hB
          simp only[Option.some.injEq,Prod.mk.injEq] at h
          obtain⟨rfl,rfl,rfl,rfl⟩:=h
          obtain⟨⟨h1,h2⟩,h3,h4⟩:=hc
          have:=key hB.1 hB.2 h1 h2 h3
          rwa[h4] at this
        · cases h
      · split at h
        · rename_i hB
          obtain⟨hcp,hfk,h1,h2⟩:=hB
          simp only[Option.some.injEq,Prod.mk.injEq] at h
          obtain⟨rfl,rfl,rfl,rfl⟩:=h
          exact key hcp hfk h1 h2 hc
        · cases h
    · cases h
  · rename_i i' o dl dc
    split at h
    · rename_i x hm
      split at h
      · rename_i hcp
        simp only[Option.some.injEq,Prod.mk.injEq] at h
        obtain⟨rfl,rfl,rfl,rfl⟩:=h
        obtain⟨e,hu,hs⟩:=E.hCP dT hcp
        have e1 : mem.set i' x = mem := by
          apply List.ext_getElem?
          intro k
          rw[List.getElem?_set]
          split
          · rename_i hk
            subst hk
            rw[if_pos (List.getElem?_eq_some_iff.1 hm).1,hm]
          · rfl
        rw[e1]
        refine⟨W,?_,R⟩
        obtain⟨inf,hi,hs'⟩:=Option.map_eq_some_iff.1 hs
        have hsz:(sizeOf e).run P W= .ok 1 W:=by simp[sizeOf,typeInfo,hi,hs']
        simp[Builtin.copy_,rn,run_underlying hu,Builtin.lenOf,Builtin.firstCells,hsz,storeCells,goInt]
      · cases h
    · cases h
  · cases h
end
end Go.Ev

set_option linter.unusedSimpArgs false
set_option linter.unusedVariables false
namespace Go.Ev
open Go.RowKit Go.Calm
section
variable {P:Program} {E:En P}
theorem stP_wp {σ σ' : Sy} {o : Oper} (h : stP E σ o = some σ') (hc : σ'.c) : σ.c ∧ ∀ {Q : Exit → Act → World → Prop} {K : Act → World → Prop} {w0 W : World} {β : Nat → Nat} {a : Act}, Rl E.fk w0 W β σ a → (∀ W' β' a', Rl E.fk w0 W' β' σ' a' → (∀ i, i < σ.mem.length → β' i = β i) → K a' W') → o.wp P a W K Q := by
  have viaQ:quS E σ o=some σ'→σ.c∧∀ {Q:Exit→Act→World→Prop} {K:Act→World→Prop} {w0 W:World} {β:Nat→Nat} {a:Act},Rl E.fk w0 W β σ a→(∀ W' β' a',Rl E.fk w0 W' β' σ' a'→(∀ i,i<σ.mem.length→β' i=β i)→K a' W')→o.wp P a W K Q:=fun hq=>by
    refine⟨(quS_ok (w0:=default) (β:=id) hq hc).1,fun {Q K w0 W β a} R hK=> ?_⟩
    obtain⟨_,v,h4,h5⟩:=quS_ok (w0:=w0) (β:=β) hq hc
    exact wp_of_upon (h5 W a R) (fun W' hb=>hK W' β _ ((h4 W a R).below hb) (fun _ _=>rfl))
  obtain⟨dst,op,ty,pos,after,guard⟩:=o
  cases op
  case alloc t =>
    simp only[stP] at h
    split at h
    rotate_left
    · cases h
    rename_i hl
    have hl:σ.mem.length+1<big:=by simpa using hl
    split at h
    · rename_i cs hz
      simp only[Option.some.injEq] at h
      subst h
      refine⟨hc,fun {Q K w0 W β a} R hK=> ?_⟩
      unfold Oper.wp
      rw[run_alloc rfl (E.hZ t cs hz)]
      exact hK _ _ _ (R.new dst (R.m.new hl cs t)) (fun i hi=>upd_old hi)
    · cases h
  case box t x =>
    simp only[stP] at h
    split at h
    · rename_i hk
      simp only[Bool.and_eq_true] at hk
      obtain⟨hk,hl⟩:=hk
      have hl:σ.mem.length+1<big:=by simpa using hl
      split at h
      · rename_i cs e
        simp only[Option.some.injEq] at h
        subst h
        refine⟨hc,fun {Q K w0 W β a} R hK=> ?_⟩
        have hx:=R.evn hk (by rw[e];rfl)
        rw[e] at hx
        unfold Oper.wp execOp
        simp only[hx]
        exact hK _ _ _ (R.new dst (R.m.new hl cs t)) (fun i hi=>upd_old hi)
      · cases h
    · cases h
  case buildSlice t len ps =>
    simp only[stP] at h
    split at h
    · rename_i hk
      rw[Bool.and_eq_true] at hk
      obtain⟨hk,hl⟩:=hk
      have hl:σ.mem.length+1<big:=by simpa using hl
      split at h
      · rename_i e cs hb
        simp only[Option.some.injEq] at h
        subst h
        refine⟨hc,fun {Q K w0 W β a} R hK=> ?_⟩
        have he:(ps.map fun(i,x)=>(i,a.eval x))=(ps.map fun(i,x)=>(i,opn σ.tm x)):=by
          apply Array.map_congr_left
          intro p hp
          have:=List.all_eq_true.1 hk p (by simpa using hp)
          simp only[Bool.and_eq_true] at this
          obtain⟨i,x⟩:=p
          show(i,a.eval x)=(i,opn σ.tm x)
          rw[R.evn this.1 this.2]
        unfold Oper.wp execOp
        simp only[he,E.hBS t len _ e cs hb W,Sem.run_bind,Sem.run_pure,Result.andThen_ok]
        exact hK _ _ _ (R.newV dst len len (R.m.new hl cs e) _) (fun i hi=>upd_old hi)
      · cases h
    · cases h
  case makeSlice t l c =>
    simp only[stP] at h
    split at h
    · rename_i hk
      simp only[Bool.and_eq_true] at hk
      obtain⟨hk,hl⟩:=hk
      have hl:σ.mem.length+1<big:=by simpa using hl
      split at h
      · rename_i k1 n k2 m e z k b e1 e2 e3
        split at h
        · simp only [Option.some.injEq] at h
          subst h
          obtain⟨hc0,hn,hm,hb,h63⟩:=hc
          refine⟨hc0,fun {Q K w0 W β a} R hK=> ?_⟩
          have hx:=R.evn hk.1 (by rw[e1];rfl)
          have hy:=R.evn hk.2 (by rw[e2];rfl)
          rw[e1,hn] at hx
          rw[e2] at hy
          have hr:=E.hMK t e z k b e3 k1 k2 0 m.toNat W (Nat.zero_le _) hb h63
          rw[Int.toNat_of_nonneg hm] at hr
          have hr:(Instr.makeSlice t (.int k1 0) (.int k2 m)).run P W=_:=hr
          unfold Oper.wp execOp
          simp only[hx,hy,hr,Sem.run_bind,Sem.run_pure,Result.andThen_ok]
          exact hK _ _ _ (R.newV dst 0 m.toNat (R.m.new hl (madeCells z (m.toNat*k)) e) _) (fun i hi=>upd_old hi)
        · simp only [Option.some.injEq] at h
          subst h
          obtain⟨hc0,hn,rfl,hb,h63⟩:=hc
          refine⟨hc0,fun {Q K w0 W β a} R hK=> ?_⟩
          have hx:=R.evn hk.1 (by rw[e1];rfl)
          have hy:=R.evn hk.2 (by rw[e2];rfl)
          rw[e1] at hx
          rw[e2] at hy
          have hr:=E.hMK t e z k b e3 k1 k2 n.toNat n.toNat W (Nat.le_refl _) hb h63
          rw[Int.toNat_of_nonneg hn] at hr
          unfold Oper.wp execOp
          simp only[hx,hy,hr,Sem.run_bind,Sem.run_pure,Result.andThen_ok]
          exact hK _ _ _ (R.newV dst n.toNat n.toNat (R.m.new hl (madeCells z (n.toNat*k)) e) _) (fun i hi=>upd_old hi)
      · cases h
    · cases h
  case store t x y =>
    simp only[stP] at h
    split at h
    · rename_i hk
      simp only[Bool.and_eq_true] at hk
      split at h
      · rename_i i cs c hs
        simp only[Option.some.injEq] at h
        subst h
        obtain⟨h1,h2⟩:=hc
        refine⟨h1,fun {Q K w0 W β a} R hK=> ?_⟩
        obtain⟨W',hr,M⟩:=stS_ok (P:=P) R.m hs h2
        unfold Oper.wp execOp
        simp only[R.ev hk.1,R.ev hk.2,hr,Sem.run_bind,Sem.run_pure,Result.andThen_ok]
        refine hK W' β _ ?_ (fun _ _=>rfl)
        have R':Rl E.fk w0 W' β ⟨σ.tm,σ.mem.set i cs,σ.c,σ.ch⟩ a:=⟨M,R.t,R.d,by simpa using R.ok⟩
        exact R'.put dst (v:=undef) rfl _ _
      · cases h
    · cases h
  case call cl =>
    obtain⟨callee,as,ts⟩:=cl
    cases callee with
    | builtin bi =>
      cases bi
      case copy =>
        simp only[stP] at h
        split at h
        · rename_i x y dT sT e1 e2
          have e1:as= #[x,y]:=Array.ext' (by rw[e1])
          have e2:ts= #[dT,sT]:=Array.ext' (by rw[e2])
          subst e1 e2
          split at h
          · rename_i hk
            simp only[Bool.and_eq_true] at hk
            split at h
            · rename_i i cs n c hs
              simp only[Option.some.injEq] at h
              subst h
              obtain⟨h1,h2⟩:=hc
              refine⟨h1,fun {Q K w0 W β a} R hK=> ?_⟩
              obtain⟨W',hr,M⟩:=stC_ok (P:=P) (sT:=sT) (ty:=ty) R.m hs h2
              have hx:=R.ev hk.1
              have hy:=R.ev hk.2
              have hrun:(execOp a.eval ⟨dst,.call ⟨.builtin .copy, #[x,y], #[dT,sT]⟩,ty,pos,after,guard⟩).run P W= .ok (.value (.int .i64 n)) W':=by
                unfold execOp resolve
                simp only[List.map_toArray,List.map_cons,List.map_nil,hx,hy]
                have:∀ q,invoke (.builtin .copy #[dT,sT] ty q) #[rn β (opn σ.tm x),rn β (opn σ.tm y)]=(do pure (.value (← Builtin.copy_ #[dT,sT] ty #[rn β (opn σ.tm x),rn β (opn σ.tm y)]))):=fun q=>rfl
                simp only[Sem.run_bind,Sem.run_pure,Result.andThen_ok]
                rw[this]
                simp only[Sem.run_bind,Sem.run_pure,Result.andThen_ok,hr]
              unfold Oper.wp
              rw[hrun]
              refine hK W' β _ ?_ (fun _ _=>rfl)
              have R':Rl E.fk w0 W' β ⟨σ.tm,σ.mem.set i cs,σ.c,σ.ch⟩ a:=⟨M,R.t,R.d,by simpa using R.ok⟩
              exact R'.put dst (v:= .int .i64 n) rfl _ _
            · cases h
          · cases h
        · cases h
      all_goals exact viaQ h
    |value x=>exact viaQ h
    |invoke x m=>exact viaQ h
  all_goals exact viaQ h
theorem stM_wp {σ σ' : Sy} {o : Oper} (h : stM E σ o = some σ') (hc : σ'.c) : σ.c ∧ ∀ {Q : Exit → Act → World → Prop} {K : Act → World → Prop} {w0 W : World} {β : Nat → Nat} {a : Act}, Rl E.fk w0 W β σ a → (∀ W' β' a', Rl E.fk w0 W' β' σ' a' → K a' W') → o.wp P a W K Q := by
  have old:stP E σ o=some σ'→σ.c∧∀ {Q:Exit→Act→World→Prop} {K:Act→World→Prop} {w0 W:World} {β:Nat→Nat} {a:Act},Rl E.fk w0 W β σ a→(∀ W' β' a',Rl E.fk w0 W' β' σ' a'→K a' W')→o.wp P a W K Q:=fun h=>
    ⟨(stP_wp h hc).1,fun R hK=>(stP_wp h hc).2 R (fun W' β' a' R' _=>hK W' β' a' R')⟩
  obtain⟨dst,op,ty,pos,after,guard⟩:=o
  unfold stM at h
  split at h
  · rename_i f as ts e
    simp only at e
    subst e
    split at h
    · rename_i hk
      simp only[Bool.and_eq_true] at hk
      obtain⟨hk,hl⟩:=hk
      have hl:σ.mem.length+1<big:=by simpa using hl
      split at h
      · rename_i cs t n k c hm
        simp only[Option.some.injEq] at h
        subst h
        obtain⟨h1,h2⟩:=hc
        refine⟨h1,fun {Q K w0 W β a} R hK=> ?_⟩
        have e:as.map a.eval=((as.toList.map (opn σ.tm)).map (rn β)).toArray:=by
          rw[List.map_map,← List.map_toArray]
          apply Array.map_congr_left
          intro x hx
          exact R.ev (List.all_eq_true.1 hk x (by simpa using hx))
        have hr:(execOp a.eval ⟨dst,.call ⟨.value (.func f),as,ts⟩,ty,pos,after,guard⟩).run P W= .ok (.enter f (as.map a.eval)) W:=by
          have h2:=E.hMC f _ _ _ hm
          go_simp
        unfold Oper.wp
        rw[hr,e,Oper.upon_enter]
        refine(E.hM f _ _ cs t n k c hm h2 W β R.m.has R.v.gl).mono ?_
        rintro e W' ⟨b,rfl,hb,hcs,hB⟩
        refine hK _ _ _ (R.newV dst n k ((R.m.call hB).more hl (Nat.le_trans R.m.below.size hb) (fun i hi=> ?_) hcs) _)
        have:=lt_of_heap (R.m.has i _ (List.getElem?_eq_getElem hi))
        omega
      · exact old h
    · exact old h
  · rename_i s d x e
    simp only at e
    subst e
    split at h
    · rename_i hk
      simp only[Bool.and_eq_true] at hk
      split at h
      · rename_i i p l c ex
        split at h
        · rename_i hfk
          split at h
          · rename_i cs t hm
            simp only[Option.some.injEq] at h
            subst h
            refine⟨hc,fun {Q K w0 W β a} R hK=> ?_⟩
            obtain⟨rfl,el,hu,hue⟩:=E.hCI s d hk.2
            have hx:=R.ev hk.1
            rw[ex] at hx
            simp only[rn] at hx
            have hsh:W.shape? (β i)=some (t,cs.size):=by
              unfold World.shape?
              rw[R.m.has i _ hm]
            have hr:(convert s s (.slice (some ⟨β i,p,none⟩) l c)).run P W= .ok (.slice (some ⟨β i,p,none⟩) l c) (W.freeze ⟨β i,cs.size,none⟩ 1):=by
              simp[convert,run_underlying hu,run_underlying hue,markStringish,hsh]
            unfold Oper.wp execOp
            simp only[hx,hr,Sem.run_bind,Sem.run_pure,Result.andThen_ok]
            have R':Rl E.fk w0 (W.freeze ⟨β i,cs.size,none⟩ 1) β ⟨σ.tm,σ.mem.set i (cs,t,(cs.size,cs.size+1)),σ.c,σ.ch⟩ a:=⟨R.m.mark hfk hm,R.t,R.d,by simpa using R.ok⟩
            have hi:=(List.getElem?_eq_some_iff.1 hm).1
            have:=R'.put dst (v:= .slice (some ⟨i,p,none⟩) l c) (by simp[okp,hi]) σ.c σ.ch
            exact hK _ _ _ this
          · cases h
        · cases h
      · exact old h
    · exact old h
  · exact old h
theorem stM_ok {ops:Array Oper} {σ σ':Sy} {o:Oper} {rest:List Oper} (h:stM E σ o=some σ') (hc:σ'.c):σ.c∧∀ {Q:Exit→Act→World→Prop} {w0 W:World} {β:Nat→Nat} {a:Act},Rl E.fk w0 W β σ a→Region.wanted o (yielded ops a.tmps)=true→(∀ W' β' a',Rl E.fk w0 W' β' σ' a'→wpList P ops Q rest a' W')→wpList P ops Q (o :: rest) a W:=
  ⟨(stM_wp h hc).1,fun R hw hK=>wpList_wanted hw fun K hK'=>(stM_wp h hc).2 R (fun W' β' a' R'=>hK' _ _ (hK W' β' a' R'))⟩
theorem evL_ok {ops : Array Oper} : ∀ (l : List Oper) (σ σ' : Sy), evL E ops l σ = some σ' → σ'.c → σ.c ∧ ∀ {Q : Exit → Act → World → Prop} {w0 W : World} {β : Nat → Nat} {a : Act}, Rl E.fk w0 W β σ a → (∀ W' β' a', Rl E.fk w0 W' β' σ' a' → Q .normal a' W') → wpList P ops Q l a W
  | [], σ, σ', h, hc => by
    simp only[evL,Option.some.injEq] at h
    subst h
    exact⟨hc,fun R hK=>hK _ _ _ R⟩
  | o :: r, σ, σ', h, hc => by
    unfold evL at h
    split at h
    · rename_i hw
      split at h
      · rename_i σ1 hs
        obtain⟨h1,h2⟩:=evL_ok r σ1 σ' h hc
        obtain⟨h3,h4⟩:=stM_ok (ops:=ops) (rest:=r) hs h1
        exact⟨h3,fun R hK=>h4 R (by rw[yielded_eq R];exact hw) (fun W' β' a' R'=>h2 R' hK)⟩
      · cases h
    · rename_i hw
      obtain⟨h1,h2⟩:=evL_ok r (offS σ o) σ' h hc
      exact⟨h1,fun R hK=>wl_off (by rw[yielded_eq R];simpa using hw) (h2 (R.off o) hK)⟩
def als (E : En P) : Nat → List Oper → List ((Nat × Tmp) × (Array Value × TypeId))
  |_,[]=> []
  | k, o :: r => match o.op, o.dst with
    | .alloc t,some d=>(match E.Z t with|some cs=>((k,d),(cs,t)) :: als E (k+1) r|none=>als E (k+1) r)
    |_,_=>als E (k+1) r
def addA:List ((Nat×Tmp)×(Array Value×TypeId))→Sy→Sy
  | [],σ=>σ
  |x :: r,σ=>newS (addA r σ) (some x.1.2) x.2.1 x.2.2
def obj (L:List ((Nat×Tmp)×(Array Value×TypeId))) (e:Tmp):Obj:=match L.find? (fun x=>x.1.2 == e) with|some x=> .cells x.2.1 x.2.2|none=> .cells #[] 0
theorem obj_of {L : List ((Nat × Tmp) × (Array Value × TypeId))} (hn : ((L.map Prod.fst).map Prod.snd).Nodup) {x : (Nat × Tmp) × (Array Value × TypeId)} (hx : x ∈ L) : obj L x.1.2 = .cells x.2.1 x.2.2 := by
  unfold obj
  induction L with
  |nil=>cases hx
  | cons y r ih =>
    simp only[List.map_cons,List.nodup_cons] at hn
    rw[List.find?_cons]
    rcases List.mem_cons.1 hx with rfl|hx
    · simp
    · have : (y.1.2 == x.1.2) = false := by
        simp only[beq_eq_false_iff_ne,ne_eq]
        intro e
        apply hn.1
        rw[e]
        exact List.mem_map.2 ⟨x.1,List.mem_map.2 ⟨x,hx,rfl⟩,rfl⟩
      rw[this]
      exact ih hn.2 hx
theorem als_mem : ∀ (l : List Oper) (k : Nat) (x : (Nat × Tmp) × (Array Value × TypeId)), x ∈ als E k l → k ≤ x.1.1 ∧ ∃ o, l[x.1.1 - k]? = some o ∧ o.op = .alloc x.2.2 ∧ E.Z x.2.2 = some x.2.1
  | [],k,x,h=>by cases h
  | o :: r, k, x, h => by
    have next:x ∈ als E (k+1) r→k≤x.1.1∧∃ o',(o :: r)[x.1.1 - k]? =some o'∧o'.op= .alloc x.2.2∧E.Z x.2.2=some x.2.1:=fun h=>by
      obtain⟨h1,o',h2,h3⟩:=als_mem r (k+1) x h
      refine⟨by omega,o',?_,h3⟩
      rw[show x.1.1 - k=(x.1.1 - (k+1))+1 by omega,List.getElem?_cons_succ]
      exact h2
    unfold als at h
    split at h
    · rename_i t d e1 e2
      split at h
      · rename_i cs hz
        rcases List.mem_cons.1 h with rfl|h
        · exact⟨Nat.le_refl _,o,by simp,e1,hz⟩
        · exact next h
      · exact next h
    · exact next h
def evD (E : En P) (n : Nat) (l : List Oper) (σ : Sy) : Option Sy :=
  if calmB .any l.toArray n ((als E 0 (l.take n)).map Prod.fst) && ((als E 0 (l.take n)).map Prod.fst).all (fun x => match l[x.1]? with | some o => o.after.size == 0 | none => false) then
    (match evH E l.toArray (((als E 0 (l.take n)).map Prod.fst).map Prod.fst) 0 (l.take n) σ with
    |some σ1=>if Nat.blt (addA (als E 0 (l.take n)) σ1).mem.length big then evL E l.toArray (l.drop n) (addA (als E 0 (l.take n)) σ1) else none
    |none=>none)
  else none
theorem addA_c (L:List ((Nat×Tmp)×(Array Value×TypeId))) (σ:Sy):(addA L σ).c=σ.c:=by
  induction L with
  |nil=>rfl
  |cons x r ih=>exact ih
theorem addA_ok {fk : Nat} {w0 w' : World} {γ : Tmp → Nat} : ∀ (L : List ((Nat × Tmp) × (Array Value × TypeId))) {β : Nat → Nat} {σ : Sy} {a : Act}, (addA L σ).mem.length < big → Rl fk w0 w' β σ a → (∀ x ∈ L, w0.heap.size ≤ γ x.1.2 ∧ w'.heap[γ x.1.2]? = some (.cells x.2.1 x.2.2 (0, 0)) ∧ ∀ i, i < σ.mem.length → β i ≠ γ x.1.2) → (∀ x ∈ L, ∀ y ∈ L, x.1.2 ≠ y.1.2 → γ x.1.2 ≠ γ y.1.2) → ((L.map Prod.fst).map Prod.snd).Nodup →
    ∃ β',Rl fk w0 w' β' (addA L σ) (putAll γ (L.map Prod.fst) a)∧∀ i,i<(addA L σ).mem.length→(i<σ.mem.length∧β' i=β i)∨∃ x ∈ L,β' i=γ x.1.2
  | [],β,σ,a,_,R,_,_,_=>⟨β,R,fun i hi=> .inl ⟨hi,rfl⟩⟩
  | x :: r, β, σ, a, hl, R, h1, h2, hn => by
    have hl:(addA r σ).mem.length+1<big:=by simpa[addA,newS] using hl
    simp only[List.map_cons,List.nodup_cons] at hn
    obtain⟨β',R',h3⟩:=addA_ok r (by omega) R (fun y hy=>h1 y (List.mem_cons_of_mem _ hy)) (fun y hy z hz=>h2 y (List.mem_cons_of_mem _ hy) z (List.mem_cons_of_mem _ hz)) hn.2
    obtain⟨p1,p2,p3⟩:=h1 x List.mem_cons_self
    have hf : ∀ i, i < (addA r σ).mem.length → β' i ≠ γ x.1.2 := fun i hi => by
      rcases h3 i hi with⟨q1,q2⟩|⟨y,hy,q2⟩
      · rw[q2];exact p3 i q1
      · rw [q2]
        refine fun e=>h2 y (List.mem_cons_of_mem _ hy) x List.mem_cons_self (fun e'=>hn.1 ?_) e
        rw[← e']
        exact List.mem_map.2 ⟨y.1,List.mem_map.2 ⟨y,hy,rfl⟩,rfl⟩
    refine⟨_,R'.new (some x.1.2) (R'.m.more hl p1 hf p2),fun i hi=> ?_⟩
    have hi':i<(addA r σ).mem.length+1:=by simpa[addA,newS] using hi
    by_cases hl:i<(addA r σ).mem.length
    · rw [upd_old hl]
      rcases h3 i hl with h|⟨y,hy,e⟩
      · exact .inl h
      · exact .inr ⟨y,List.mem_cons_of_mem _ hy,e⟩
    · have : i = (addA r σ).mem.length := by omega
      subst this
      rw[upd_new]
      exact .inr ⟨x,List.mem_cons_self,rfl⟩
theorem evD_ok {id n : Nat} (hm : P.follows .mixedOrders = true) {l : List Oper} {σ σ' : Sy} (h : evD E n l σ = some σ') (hc : σ'.c) : σ.c ∧ ∀ {Q : Exit → Act → World → Prop} {w0 W : World} {β : Nat → Nat} {a : Act}, Rl E.fk w0 W β σ a → (∀ W' β' a', Rl E.fk w0 W' β' σ' a' → Q .normal a' W') → (Code.region id l.toArray true).wp P Q a W := by
  unfold evD at h
  split at h
  · rename_i hB
    simp only[Bool.and_eq_true] at hB
    split at h
    · rename_i σ1 h1
      split at h
      rotate_left
      · cases h
      rename_i hl
      have hl:(addA (als E 0 (l.take n)) σ1).mem.length<big:=by simpa using hl
      obtain⟨h2,h3⟩:=evL_ok _ _ _ h hc
      rw[addA_c] at h2
      refine⟨(evH_ok (K:=fun _=>True) (w0:=default) (W:=default) (β:=fun i=>i) (al:=(als E 0 (l.take n)).map Prod.fst) _ _ _ _ h1 h2).1,fun {Q w0 W β a} R hK=> ?_⟩
      have hnd:(((als E 0 (l.take n)).map Prod.fst).map Prod.snd).Nodup:=by
        have:=hB.1
        simp only[calmB,Bool.and_eq_true] at this
        exact nodup_of_newB this.1.2
      have hmem:∀ x ∈ als E 0 (l.take n),∃ o,l[x.1.1]? =some o∧o.op= .alloc x.2.2∧E.Z x.2.2=some x.2.1:=fun x hx=>by
        obtain⟨_,o,h4,h5⟩:=als_mem _ _ x hx
        refine⟨o,?_,h5⟩
        rw[Nat.sub_zero,List.getElem?_take] at h4
        split at h4
        · exact h4
        · cases h4
      refine Calm.wp_region n ((als E 0 (l.take n)).map Prod.fst) (obj (als E 0 (l.take n))) hm hB.1 hB.2 (fun y hy o ho a w=> ?_) ?_
      · obtain ⟨x, hx, rfl⟩ := List.mem_map.1 hy
        obtain⟨o',h4,h5,h6⟩:=hmem x hx
        rw[ho] at h4
        simp only[Option.some.injEq] at h4
        subst h4
        rw[obj_of hnd hx]
        exact run_alloc h5 (E.hZ _ _ h6) a w
      · refine (evH_ok _ _ _ _ h1 h2).2 a ⟨R.m.drew, R.t, R.d, R.ok⟩ (fun a' R' γ w' hb hγ hne => ?_)
        have R1:Rl E.fk w0 w' β σ1 a':=⟨(show Rp E.fk w0 W β σ1.mem from⟨R.m.below,R'.m.own,R'.m.inj,R'.m.has,R'.m.lt,R'.m.gl⟩).call hb,R'.t,R'.d,R'.ok⟩
        obtain⟨β',R2,_⟩:=addA_ok (γ:=γ) (als E 0 (l.take n)) hl R1 (fun x hx=>by
          obtain⟨q1,q2⟩:=hγ x.1 (List.mem_map.2 ⟨x,hx,rfl⟩)
          rw[obj_of hnd hx] at q2
          refine⟨Nat.le_trans R.m.below.size q1,q2,fun i hi e=> ?_⟩
          have:=lt_of_heap (R'.m.has i _ (List.getElem?_eq_getElem hi))
          have hs:W.drew.heap.size=W.heap.size:=rfl
          omega) (fun x hx y hy hxy=>hne x.1 (List.mem_map.2 ⟨x,hx,rfl⟩) y.1 (List.mem_map.2 ⟨y,hy,rfl⟩) hxy) hnd
        exact h3 R2 hK
    · cases h
  · cases h
end
end Go.Ev

set_option linter.unusedSimpArgs false
set_option linter.unusedVariables false
namespace Go.Ev
open Go.RowKit Go.Calm
section
variable {P:Program} {E:En P}
def blks (β:Nat→Nat):Nat→List Mb→List Blk
  |_,[]=> []
  |k,x :: r=>⟨β k,x.1,x.2.1⟩ :: blks β (k+1) r
theorem mem_blks {β:Nat→Nat}:∀(m:List Mb) (k:Nat) (x:Blk),x ∈ blks β k m↔∃ i y,m[i]? =some y∧x=⟨β (k+i),y.1,y.2.1⟩
  | [],k,x=>by simp[blks]
  | y :: r, k, x => by
    simp only[blks,List.mem_cons,mem_blks r (k+1) x]
    constructor
    · rintro (rfl | ⟨i, z, hz, rfl⟩)
      · exact⟨0,y,rfl,rfl⟩
      · exact⟨i+1,z,by simpa using hz,by rw[Nat.add_assoc,Nat.add_comm 1 i]⟩
    · rintro ⟨i, z, hz, rfl⟩
      cases i with
      |zero=>left;simp at hz;subst hz;rfl
      |succ i=>exact .inr ⟨i,z,by simpa using hz,by rw[Nat.add_assoc,Nat.add_comm 1 i]⟩
theorem blks_b (β:Nat→Nat):∀(m:List Mb) (k:Nat),(blks β k m).map Blk.b=(List.range' k m.length).map β
  | [],k=>rfl
  |x :: r,k=>by simp only[blks,List.map_cons,blks_b β r (k+1),List.length_cons,List.range'_succ]
theorem Rp.st {w0 W:World} {β:Nat→Nat} {m:List Mb} (R:Rp 0 w0 W β m) (h0:∀(i:Nat) (y:Mb),m[i]? =some y→y.2.2=(0,0)):St w0 W (blks β 0 m):=by
  refine⟨R.below,fun x hx=> ?_,?_,fun x hx=> ?_⟩
  · obtain ⟨i, y, hy, rfl⟩ := (mem_blks m 0 x).1 hx
    rw[Nat.zero_add]
    exact R.own i (Nat.zero_le _) (List.getElem?_eq_some_iff.1 hy).1
  · rw [blks_b, List.nodup_iff_pairwise_ne, List.pairwise_map]
    refine List.Pairwise.imp_of_mem ?_ (List.nodup_iff_pairwise_ne.1 (List.nodup_range' (step:=1) (by omega)))
    intro i j hi hj hne e
    simp only[List.mem_range'_1] at hi hj
    exact hne (R.inj i j (Nat.zero_le _) (by omega) (by omega) e)
  · obtain ⟨i, y, hy, rfl⟩ := (mem_blks m 0 x).1 hx
    rw[Nat.zero_add]
    have:=R.has i y hy
    rwa[h0 i y hy] at this
theorem Rp.of_st {fk:Nat} {w0 W W':World} {β:Nat→Nat} {m:List Mb} (R:Rp fk w0 W β m) {L:List Blk} (h0:∀(i:Nat) (y:Mb),m[i]? =some y→y.2.2=(0,0)) (S:St w0 W' (L ++ blks β 0 m)):Rp fk w0 W' β m:=
  ⟨S.below,R.own,R.inj,fun i x hx=>by
    have:=S.has ⟨β i,x.1,x.2.1⟩ (List.mem_append_right _ ((mem_blks m 0 _).2 ⟨i,x,hx,by rw[Nat.zero_add]⟩))
    rw[h0 i x hx];exact this,R.lt,R.gl⟩
theorem Has.of_mem0 {W:World} {β:Nat→Nat} {m:List Mb} (h0:∀(i:Nat) (y:Mb),m[i]? =some y→y.2.2=(0,0)) (h:Mem0 (blks β 0 m) W):Has W β m:=fun i y hy=>by
  have:=h ⟨β i,y.1,y.2.1⟩ ((mem_blks m 0 _).2 ⟨i,y,hy,by rw[Nat.zero_add]⟩)
  rw[h0 i y hy];exact this
theorem Has.mem0 {W:World} {β:Nat→Nat} {m:List Mb} (h0:∀(i:Nat) (y:Mb),m[i]? =some y→y.2.2=(0,0)) (h:Has W β m):Mem0 (blks β 0 m) W:=fun x hx=>by
  obtain⟨i,y,hy,rfl⟩:=(mem_blks m 0 x).1 hx
  rw[Nat.zero_add]
  have:=h i y hy
  rwa[h0 i y hy] at this
def evA (E : En P) (ops : Array Oper) : List (Nat × Bool) → Sy → Option Sy
  | [],σ=>some σ
  | (i, b) :: r, σ => (match ops[i]? with
    |some o=>if Region.wanted o (yielded ops σ.tm.toArray) then(if b && callB o.op then none else(match quS E σ o with|some σ'=>evA E ops r σ'|none=>none))
        else(if b then evA E ops r (offS σ o) else none)
    |none=>none)
def highB (n:Nat) (σ:Sy) (o:Oper):Bool:=match o.op with
  | .store _ x _=>(match opn σ.tm x with| .pointer (some ⟨i,_,_⟩)=>decide (n≤i)|_=>false)
  | .call { callee:= .builtin _,args:=_,argTypes:=_ }=>false
  | .buildSlice .. =>false
  | .makeSlice .. =>false
  |_=>true
def evT (E : En P) (ops : Array Oper) (n : Nat) : List (Nat × Bool) → Sy → Option Sy
  | [],σ=>some σ
  | (i, b) :: r, σ => (match ops[i]? with
    |some o=>if Region.wanted o (yielded ops σ.tm.toArray) && !b && highB n σ o then(match stP E σ o with|some σ'=>evT E ops n r σ'|none=>none) else none
    |none=>none)
theorem quS_mem {σ σ':Sy} {o:Oper} (h:quS E σ o=some σ'):σ'.mem=σ.mem:=by
  unfold quS at h
  split at h
  · split at h
    · simp only [Option.some.injEq] at h
      subst h
      rfl
    · cases h
  · cases h
theorem high_mem {n : Nat} {σ σ' : Sy} {o : Oper} (hb : highB n σ o = true) (hn : n ≤ σ.mem.length) (h : stP E σ o = some σ') : n ≤ σ'.mem.length ∧ ∀ i, i < n → σ'.mem[i]? = σ.mem[i]? := by
  have viaQ:quS E σ o=some σ'→n≤σ'.mem.length∧∀ i,i<n→σ'.mem[i]? =σ.mem[i]? :=fun hq=>by
    rw[quS_mem hq]
    exact⟨hn,fun _ _=>rfl⟩
  have viaN:∀ cs t,newS σ o.dst cs t=σ'→n≤σ'.mem.length∧∀ i,i<n→σ'.mem[i]? =σ.mem[i]? :=fun cs t e=>by
    subst e
    refine⟨by simp only[newS,List.length_append];omega,fun i hi=> ?_⟩
    show(σ.mem ++ [(cs,t,(0,0))])[i]? =_
    rw[List.getElem?_append_left (by omega)]
  obtain⟨dst,op,ty,pos,after,guard⟩:=o
  cases op
  case alloc t =>
    simp only[stP] at h
    split at h
    · split at h
      · simp only [Option.some.injEq] at h
        exact viaN _ _ h
      · cases h
    · cases h
  case box t x =>
    simp only[stP] at h
    split at h
    · split at h
      · simp only [Option.some.injEq] at h
        exact viaN _ _ h
      · cases h
    · cases h
  case store t x y =>
    simp only[stP] at h
    split at h
    · split at h
      · rename_i j cs c hs
        simp only[Option.some.injEq] at h
        subst h
        simp only[highB] at hb
        split at hb
        · rename_i i0 o0 s0 e
          simp only[decide_eq_true_eq] at hb
          have hj : j = i0 := by
            unfold stS at hs
            rw[e] at hs
            split at hs
            · rename_i i1 o1 e1
              injection e1 with e1
              injection e1 with e1
              injection e1 with e1
              subst e1
              repeat' split at hs
              all_goals first|(cases hs;done)|(simp only[Option.some.injEq,Prod.mk.injEq] at hs;exact hs.1.symm)
            · cases hs
          refine⟨by simpa using hn,fun i hi=> ?_⟩
          show(σ.mem.set j cs)[i]? =_
          rw[List.getElem?_set_ne (by omega)]
        · cases hb
      · cases h
    · cases h
  case buildSlice=>cases hb
  case makeSlice=>cases hb
  case call cl=>
    obtain⟨callee,as,ts⟩:=cl
    cases callee with
    |builtin bi=>cases hb
    |value x=>exact viaQ h
    |invoke x m=>exact viaQ h
  all_goals exact viaQ h
theorem evT_ok {ops : Array Oper} {w0 : World} {m : List Mb} {γ : Nat → Nat} : ∀ (π : List (Nat × Bool)) (σ σ' : Sy), evT E ops m.length π σ = some σ' → σ'.c → σ.c ∧ ∀ {Q : Exit → Act → World → Prop} {W : World} {β : Nat → Nat} {a : Act}, m.length ≤ σ.mem.length → (∀ i, i < m.length → σ.mem[i]? = m[i]?) → (∀ i, i < m.length → β i = γ i) → Rl E.fk w0 W β σ a → (∀ W' β' a', Rl E.fk w0 W' β' σ' a' → Q .normal a' W') → walkH P ops Q (fun W => Has W γ m) π a W
  | [], σ, σ', h, hc => by
    simp only[evT,Option.some.injEq] at h
    subst h
    exact⟨hc,fun _ _ _ R hK=>hK _ _ _ R⟩
  | (i, b) :: r, σ, σ', h, hc => by
    unfold evT at h
    split at h
    · rename_i o ho
      split at h
      · rename_i hw
        simp only[Bool.and_eq_true,Bool.not_eq_true'] at hw
        obtain⟨⟨hw,rfl⟩,hh⟩:=hw
        split at h
        · rename_i σ1 hs
          obtain⟨h1,h2⟩:=evT_ok (m:=m) (γ:=γ) r σ1 σ' h hc
          obtain⟨h3,h4⟩:=stP_wp hs h1
          refine⟨h3,fun {Q W β a} hl hm hg R hK=>wh_only ho (by rw[yielded_eq R];exact hw) (h4 R (fun W' β' a' R' hβ=> ?_))⟩
          obtain⟨q1,q2⟩:=high_mem hh hl hs
          have hg':∀ i,i<m.length→β' i=γ i:=fun i hi=>by rw[hβ i (by omega)];exact hg i hi
          have hm':∀ i,i<m.length→σ1.mem[i]? =m[i]? :=fun i hi=>by rw[q2 i hi];exact hm i hi
          refine⟨fun k y hy=> ?_,h2 q1 hm' hg' R' hK⟩
          have hk:=(List.getElem?_eq_some_iff.1 hy).1
          have:=R'.m.has k y (by rw[hm' k hk];exact hy)
          rw[hg' k hk] at this
          exact this
        · cases h
      · cases h
    · cases h
theorem walkH_iff {ops:Array Oper} {Q:Exit→Act→World→Prop} {S S':World→Prop} (h:∀ W,S' W↔S W) (π:List (Nat×Bool)) (a:Act) (W:World) (hw:walkH P ops Q S π a W):walkH P ops Q S' π a W:=by
  have:S=S':=funext fun W=>propext (h W).symm
  rw[← this];exact hw
theorem evA_ok {ops : Array Oper} {w0 : World} {β : Nat → Nat} {m : List Mb} (h0 : ∀ (i : Nat) (y : Mb), m[i]? = some y → y.2.2 = (0, 0)) {d : Tmp} {cs : Array Value} {t : TypeId} {tail : List (Nat × Bool)} {Q : Exit → Act → World → Prop} : ∀ (π : List (Nat × Bool)) (σ σ' : Sy), evA E ops π σ = some σ' → σ'.c → σ.mem = m → σ.c ∧ σ'.mem = m ∧ ∀ {a : Act}, (∀ W, Rp E.fk w0 W β m → Rl E.fk w0 W β σ a) → (∀ a', (∀ W, Rp E.fk w0 W β m → Rl E.fk w0 W β σ' a') → ∀ b W, St w0 W (⟨b, cs, t⟩ :: blks β 0 m) → walkH P ops Q (Mem0 (blks β 0 m)) tail (a'.put (some d) (ptr b)) W) → (∃ W, Rp E.fk w0 W β m) → walkA P ops Q w0 (blks β 0 m) (blks β 0 m) d cs t tail π (fun _ => True) a
  | [], σ, σ', h, hc, hm => by
    simp only[evA,Option.some.injEq] at h
    subst h
    exact⟨hc,hm,fun R hK _ b W S _=>hK _ R b W S⟩
  | (i, b) :: r, σ, σ', h, hc, hm => by
    unfold evA at h
    split at h
    · rename_i o ho
      split at h
      · rename_i hw
        split at h
        · cases h
        · rename_i hb
          split at h
          · rename_i σ1 hq
            obtain⟨h1,hm1,h2⟩:=evA_ok (m:=m) h0 (w0:=w0) (β:=β) (d:=d) (cs:=cs) (t:=t) (tail:=tail) (Q:=Q) r σ1 σ' h hc ((quS_mem hq).trans hm)
            obtain⟨h3,v,h4,_,h5⟩:=quS_all (β:=β) hq h1
            refine⟨h3,hm1,fun {a} R hK hex=> ?_⟩
            obtain⟨W1,M1⟩:=hex
            have hw':Region.wanted o (yielded ops a.tmps)=true:=by rw[yielded_eq (R W1 M1)];exact hw
            have next:=h2 (a:=a.put o.dst v) (fun W M=>h4 w0 W a (R W M)) hK ⟨W1,M1⟩
            have t1:=(R W1 M1).t
            have hv:∀ W,Mem0 (blks β 0 m) W→Rv E.fk W β σ a:=fun W hM=>⟨by rw[hm];exact Has.of_mem0 h0 hM,t1,(R W1 M1).v.gl⟩
            cases b with
            | true =>
              refine⟨o,v,ho,.inl ⟨hw',fun W hM=> ?_⟩,next⟩
              rcases h5 W a (hv W hM) with h6|⟨h6,_⟩
              · exact h6
              · rw[h6] at hb;exact absurd rfl hb
            | false =>
              refine⟨o,ho,hw',fun u _=>u=v,fun _ _ _ h _=>h,fun W S _=> ?_,fun u hu=> ?_⟩
              · have M : Mem0 (blks β 0 m) W := fun x hx => S.has x hx
                rcases h5 W a (hv W M) with h6|⟨_,f,args,h6,h7⟩
                · rw[h6];exact⟨Below.refl _ _,rfl⟩
                · rw[h6];exact h7.mono fun e w' ⟨p1,p2⟩=>⟨v,p1,p2,rfl⟩
              · obtain ⟨_, _, rfl⟩ := hu
                exact walkA_mono r _ _ _ (fun _ _=>trivial) next
          · cases h
      · rename_i hw
        split at h
        · rename_i hb
          obtain⟨h1,hm1,h2⟩:=evA_ok (m:=m) h0 (w0:=w0) (β:=β) (d:=d) (cs:=cs) (t:=t) (tail:=tail) (Q:=Q) r (offS σ o) σ' h hc hm
          refine⟨h1,hm1,fun {a} R hK hex=> ?_⟩
          obtain⟨W1,M1⟩:=hex
          subst hb
          refine⟨o,undef,ho,.inr ⟨by rw[yielded_eq (R W1 M1)];simpa using hw,rfl⟩,h2 (fun W M=>(R W M).off o) hK ⟨W1,M1⟩⟩
        · cases h
    · cases h
def evN (E : En P) (k : Nat) (π tail : List (Nat × Bool)) (l : List Oper) (σ : Sy) : Option Sy :=
  match l[k]? with
  | some o => (match o.op, o.dst, o.guard with
    | .alloc t, some d, none => (match E.Z t with
      |some cs=>if E.fk == 0 && σ.mem.all (fun x=>x.2.2 == (0,0)) && Nat.blt (σ.mem.length+1) big && Region.noSelect l.toArray && π.length+tail.length+1 == l.toArray.size && chkA .any l.toArray k d tail π (Array.replicate l.toArray.size false) then
          (match evA E l.toArray π σ with|some σ1=>evT E l.toArray σ.mem.length tail (newS σ1 (some d) cs t)|none=>none) else none
      |none=>none)
    |_,_,_=>none)
  |none=>none
theorem evN_ok {id k : Nat} {π tail : List (Nat × Bool)} (hm : P.follows .mixedOrders = true) {l : List Oper} {σ σ' : Sy} (h : evN E k π tail l σ = some σ') (hc : σ'.c) : σ.c ∧ ∀ {Q : Exit → Act → World → Prop} {w0 W : World} {β : Nat → Nat} {a : Act}, Rl E.fk w0 W β σ a → (∀ W' β' a', Rl E.fk w0 W' β' σ' a' → Q .normal a' W') → (Code.region id l.toArray true).wp P Q a W := by
  unfold evN at h
  split at h
  · rename_i o ho
    split at h
    · rename_i t d e1 e2 e3
      split at h
      · rename_i cs hz
        split at h
        · rename_i hB
          simp only[Bool.and_eq_true,beq_iff_eq] at hB
          obtain⟨⟨⟨⟨⟨h00,hz0⟩,hl⟩,hB1⟩,hB2⟩,hB3⟩:=hB
          have hz0:∀(i:Nat) (y:Mb),σ.mem[i]? =some y→y.2.2=(0,0):=fun i y hy=>by
            have:=List.all_eq_true.1 hz0 y (List.mem_of_getElem? hy)
            simpa using this
          have hl:σ.mem.length+1<big:=by simpa using hl
          have hB:(Region.noSelect l.toArray && π.length+tail.length+1 == l.toArray.size && chkA .any l.toArray k d tail π (Array.replicate l.toArray.size false))=true:=by simp only[Bool.and_eq_true,beq_iff_eq];exact⟨⟨hB1,hB2⟩,hB3⟩
          split at h
          · rename_i σ1 h1
            obtain⟨h2,h3⟩:=evT_ok (w0:=default) (m:=σ.mem) (γ:=fun i=>i) tail _ _ h hc
            have h2':σ1.c:=h2
            obtain⟨h4,hm1,_⟩:=evA_ok hz0 (w0:=default) (β:=fun i=>i) (d:=d) (cs:=cs) (t:=t) (tail:=tail) (Q:=fun _ _ _=>True) π σ σ1 h1 h2' rfl
            refine⟨h4,fun {Q w0 W β a} R hK=> ?_⟩
            refine Code.wp_mono (Q:=fun e a' W'=>e= .normal∧∃ β',Rl E.fk w0 W' β' σ' a') (fun e a' W' ⟨he,β',R'⟩=>by subst he;exact hK W' β' a' R') ?_
            refine region_new (L:=blks β 0 σ.mem) (cs:=cs) (t:=t) ((show Rp 0 w0 W β σ.mem from h00 ▸ R.m).st hz0) k d π tail (blks β 0 σ.mem) hm hB (by rw[ho];simp[e1,e2,e3]) (E.hZ t cs hz) (fun x hx=>hx) (fun c a d v w h=>by cases h.1) ?_
            refine(evA_ok hz0 π σ σ1 h1 h2' rfl).2.2 (fun W' M=>⟨M,R.t,R.d,R.ok⟩) (fun a' R' b W' S=> ?_) ⟨W,R.m⟩
            have M':Rp E.fk w0 W' β σ.mem:=R.m.of_st (L:= [⟨b,cs,t⟩]) hz0 S
            have R1:=R' W' M'
            have hb:=S.has ⟨b,cs,t⟩ List.mem_cons_self
            have hf:∀ i,i<σ1.mem.length→β i≠b:=fun i hi e=>by
              have nd:=S.nd
              simp only[List.map_cons,List.nodup_cons] at nd
              apply nd.1
              rw[hm1] at hi
              refine List.mem_map.2 ⟨⟨β (0+i),_,_⟩,(mem_blks σ.mem 0 _).2 ⟨i,_,List.getElem?_eq_getElem hi,rfl⟩,?_⟩
              rw[Nat.zero_add];exact e
            have R2:=R1.new (some d) (R1.m.more (by rw[hm1];exact hl) (S.own _ List.mem_cons_self) hf hb)
            refine walkH_iff (fun W=>⟨Has.of_mem0 hz0,Has.mem0 hz0⟩) _ _ _ ((evT_ok (m:=σ.mem) (γ:=β) tail _ _ h hc).2 ?_ (fun i hi=> ?_) (fun i hi=> ?_) R2 (fun W2 β2 a2 R3=>⟨rfl,β2,R3⟩))
            · show σ.mem.length ≤ (σ1.mem ++ [(cs, t, (0, 0))]).length
              rw[hm1];simp
            · show (σ1.mem ++ [(cs, t, (0, 0))])[i]? = _
              rw[hm1,List.getElem?_append_left hi]
            · rw[hm1];exact upd_old hi
          · cases h
        · cases h
      · cases h
    · cases h
  · cases h
end
end Go.Ev

set_option linter.unusedSimpArgs false
set_option linter.unusedVariables false
namespace Go.Ev
open Go.RowKit Go.Calm
section
variable {P:Program} {E:En P}
def loadIn (keep:List Nat) (σ:Sy) (o:Oper):Bool:=match o.op with
  | .load _ x=>(match opn σ.tm x with| .pointer (some ⟨i,_,_⟩)=>keep.contains i|_=>true)
  | .convert _ _ x=>(match opn σ.tm x with| .slice (some ⟨i,_,_⟩) _ _=>keep.contains i|_=>true)
  |_=>true
def storeOut (keep : List Nat) (σ : Sy) (o : Oper) : Bool := match o.op with
  | .store _ x _=>(match opn σ.tm x with| .pointer (some ⟨i,_,_⟩)=> !keep.contains i|_=>false)
  | .call { callee := .builtin .copy, args := as, argTypes := _ } => (match as.toList with
    |x :: _=>(match opn σ.tm x with| .slice (some ⟨i,_,_⟩) _ _=> !keep.contains i|_=>false)
    | []=>false)
  |_=>true
def stK (E:En P) (σ:Sy) (o:Oper):Option Sy:=match o.op with
  | .call { callee:= .value (.func f),args:=as,argTypes:=_ }=>if as.toList.all (fun x=>opk x) && Nat.blt (σ.mem.length+1) big then(match E.M f σ.mem (as.toList.map (opn σ.tm)) with
      |some (cs,t,n,k,c)=>some ⟨putS σ.tm o.dst (.slice (some ⟨σ.mem.length,0,none⟩) n k),σ.mem ++ [(cs,t,(0,0))],σ.c∧c,σ.ch⟩
      |none=>stP E σ o) else stP E σ o
  |_=>stP E σ o
theorem stK_wp {σ σ' : Sy} {o : Oper} (h : stK E σ o = some σ') (hc : σ'.c) : σ.c ∧ ∀ {Q : Exit → Act → World → Prop} {K : Act → World → Prop} {w0 W : World} {β : Nat → Nat} {a : Act}, Rl E.fk w0 W β σ a → (∀ W' β' a', Rl E.fk w0 W' β' σ' a' → (∀ i, i < σ.mem.length → β' i = β i) → K a' W') → o.wp P a W K Q := by
  obtain⟨dst,op,ty,pos,after,guard⟩:=o
  unfold stK at h
  split at h
  · rename_i f as ts e
    simp only at e
    subst e
    split at h
    · rename_i hk
      simp only[Bool.and_eq_true] at hk
      obtain⟨hk,hl⟩:=hk
      have hl:σ.mem.length+1<big:=by simpa using hl
      split at h
      · rename_i cs t n k c hm
        simp only[Option.some.injEq] at h
        subst h
        obtain⟨h1,h2⟩:=hc
        refine⟨h1,fun {Q K w0 W β a} R hK=> ?_⟩
        have e:as.map a.eval=((as.toList.map (opn σ.tm)).map (rn β)).toArray:=by
          rw[List.map_map,← List.map_toArray]
          apply Array.map_congr_left
          intro x hx
          exact R.ev (List.all_eq_true.1 hk x (by simpa using hx))
        have hr:(execOp a.eval ⟨dst,.call ⟨.value (.func f),as,ts⟩,ty,pos,after,guard⟩).run P W= .ok (.enter f (as.map a.eval)) W:=by
          have h2:=E.hMC f _ _ _ hm
          go_simp
        unfold Oper.wp
        rw[hr,e,Oper.upon_enter]
        refine(E.hM f _ _ cs t n k c hm h2 W β R.m.has R.v.gl).mono ?_
        rintro e W' ⟨b,rfl,hb,hcs,hB⟩
        refine hK _ _ _ (R.newV dst n k ((R.m.call hB).more hl (Nat.le_trans R.m.below.size hb) (fun i hi=> ?_) hcs) _) (fun i hi=>upd_old hi)
        have:=lt_of_heap (R.m.has i _ (List.getElem?_eq_getElem hi))
        omega
      · exact stP_wp h hc
    · exact stP_wp h hc
  · exact stP_wp h hc
def evS (E : En P) (ops : Array Oper) (keep : List Nat) : List (Nat × Bool) → Sy → Option Sy
  | [],σ=>some σ
  | (i, b) :: r, σ => (match ops[i]? with
    | some o => if Region.wanted o (yielded ops σ.tm.toArray) then
        (if b then(if !callB o.op && loadIn keep σ o then(match quS E σ o with|some σ'=>evS E ops keep r σ'|none=>none) else none)
          else(if storeOut keep σ o then(match stK E σ o with|some σ'=>evS E ops keep r σ'|none=>none) else none))
        else(if b then evS E ops keep r (offS σ o) else none)
    |none=>none)
def KeptAt (γ:Nat→Nat) (m:List Mb) (keep:List Nat) (W:World):Prop:=∀ i ∈ keep,∀ y,m[i]? =some y→W.heap[γ i]? =some (.cells y.1 y.2.1 y.2.2)
theorem out_mem {keep : List Nat} {σ σ' : Sy} {o : Oper} (hb : storeOut keep σ o = true) (hkl : ∀ i ∈ keep, i < σ.mem.length) (h : stP E σ o = some σ') : σ.mem.length ≤ σ'.mem.length ∧ ∀ i, i ∈ keep → σ'.mem[i]? = σ.mem[i]? := by
  have viaQ:quS E σ o=some σ'→σ.mem.length≤σ'.mem.length∧∀ i,i ∈ keep→σ'.mem[i]? =σ.mem[i]? :=fun hq=>by
    rw[quS_mem hq]
    exact⟨Nat.le_refl _,fun _ _=>rfl⟩
  have viaN:∀ x,σ.mem ++ [x]=σ'.mem→σ.mem.length≤σ'.mem.length∧∀ i,i ∈ keep→σ'.mem[i]? =σ.mem[i]? :=fun x e=>by
    rw[← e]
    refine⟨by simp,fun i hi=> ?_⟩
    rw[List.getElem?_append_left (hkl i hi)]
  obtain⟨dst,op,ty,pos,after,guard⟩:=o
  cases op
  case alloc t =>
    simp only[stP] at h
    split at h
    · split at h
      · simp only [Option.some.injEq] at h
        subst h
        exact viaN _ rfl
      · cases h
    · cases h
  case box t x =>
    simp only[stP] at h
    split at h
    · split at h
      · simp only [Option.some.injEq] at h
        subst h
        exact viaN _ rfl
      · cases h
    · cases h
  case buildSlice t len ps =>
    simp only[stP] at h
    split at h
    · split at h
      · simp only [Option.some.injEq] at h
        subst h
        exact viaN _ rfl
      · cases h
    · cases h
  case makeSlice t l c =>
    simp only[stP] at h
    split at h
    · split at h
      · split at h
        · simp only [Option.some.injEq] at h
          subst h
          exact viaN _ rfl
        · simp only [Option.some.injEq] at h
          subst h
          exact viaN _ rfl
      · cases h
    · cases h
  case store t x y =>
    simp only[stP] at h
    split at h
    · split at h
      · rename_i j cs c hs
        simp only[Option.some.injEq] at h
        subst h
        simp only[storeOut] at hb
        split at hb
        · rename_i i0 o0 s0 e
          have hj : j = i0 := by
            unfold stS at hs
            rw[e] at hs
            split at hs
            · rename_i i1 o1 e1
              injection e1 with e1
              injection e1 with e1
              injection e1 with e1
              subst e1
              repeat' split at hs
              all_goals first|(cases hs;done)|(simp only[Option.some.injEq,Prod.mk.injEq] at hs;exact hs.1.symm)
            · cases hs
          refine⟨by simp,fun i hi=> ?_⟩
          show(σ.mem.set j cs)[i]? =_
          rw[List.getElem?_set_ne]
          rintro rfl
          subst hj
          simp only[Bool.not_eq_true',List.contains_eq_mem,decide_eq_false_iff_not] at hb
          exact hb hi
        · cases hb
      · cases h
    · cases h
  case call cl =>
    obtain⟨callee,as,ts⟩:=cl
    cases callee with
    | builtin bi =>
      cases bi
      case copy =>
        simp only[stP] at h
        split at h
        · rename_i x y dT sT e1 e2
          split at h
          · split at h
            · rename_i jj cs n c hs
              simp only[Option.some.injEq] at h
              subst h
              simp only[storeOut,e1] at hb
              split at hb
              · rename_i i0 o0 s0 l0 c0 e
                have hj : jj = i0 := by
                  unfold stC at hs
                  rw[e] at hs
                  split at hs
                  · rename_i i1 o1 d1 c1 j1 p1 s1 c2 e3 e4
                    injection e3 with e3
                    injection e3 with e3
                    injection e3 with e3
                    subst e3
                    repeat' split at hs
                    all_goals first|(cases hs;done)|(simp only[Option.some.injEq,Prod.mk.injEq] at hs;exact hs.1.symm)
                  · rename_i i1 o1 d1 c1 e3 e4
                    injection e3 with e3
                    injection e3 with e3
                    injection e3 with e3
                    subst e3
                    repeat' split at hs
                    all_goals first|(cases hs;done)|(simp only[Option.some.injEq,Prod.mk.injEq] at hs;exact hs.1.symm)
                  · cases hs
                refine⟨by simp,fun i hi=> ?_⟩
                show(σ.mem.set jj cs)[i]? =_
                rw[List.getElem?_set_ne]
                rintro rfl
                subst hj
                simp only[Bool.not_eq_true',List.contains_eq_mem,decide_eq_false_iff_not] at hb
                exact hb hi
              · cases hb
            · cases h
          · cases h
        · cases h
      all_goals exact viaQ h
    |value x=>exact viaQ h
    |invoke x m=>exact viaQ h
  all_goals exact viaQ h
theorem outK_mem {keep : List Nat} {σ σ' : Sy} {o : Oper} (hb : storeOut keep σ o = true) (hkl : ∀ i ∈ keep, i < σ.mem.length) (h : stK E σ o = some σ') : σ.mem.length ≤ σ'.mem.length ∧ ∀ i, i ∈ keep → σ'.mem[i]? = σ.mem[i]? := by
  unfold stK at h
  split at h
  · split at h
    · split at h
      · simp only [Option.some.injEq] at h
        subst h
        refine⟨by simp,fun i hi=> ?_⟩
        exact List.getElem?_append_left (hkl i hi)
      · exact out_mem hb hkl h
    · exact out_mem hb hkl h
  · exact out_mem hb hkl h
theorem evS_ok {ops : Array Oper} {w0 : World} {m : List Mb} {γ : Nat → Nat} {keep : List Nat} : ∀ (π : List (Nat × Bool)) (σ σ' : Sy), evS E ops keep π σ = some σ' → σ'.c → (∀ i ∈ keep, i < m.length) → m.length ≤ σ.mem.length → (∀ i ∈ keep, σ.mem[i]? = m[i]?) → σ.c ∧ ∀ {Q : Exit → Act → World → Prop} {W : World} {β : Nat → Nat} {a : Act}, (∀ i, i < m.length → β i = γ i) → Rl E.fk w0 W β σ a → (∀ W' β' a', Rl E.fk w0 W' β' σ' a' → Q .normal a' W') → walkH P ops Q (KeptAt γ m keep) π a W
  | [], σ, σ', h, hc, _, _, _ => by
    simp only[evS,Option.some.injEq] at h
    subst h
    exact⟨hc,fun _ R hK=>hK _ _ _ R⟩
  | (i, b) :: r, σ, σ', h, hc, hkl, hl, hm => by
    unfold evS at h
    split at h
    · rename_i o ho
      split at h
      · rename_i hw
        split at h
        · rename_i hb
          split at h
          · rename_i hlk
            simp only[Bool.and_eq_true,Bool.not_eq_true'] at hlk
            split at h
            · rename_i σ1 hq
              have e1:=quS_mem hq
              obtain⟨h1,h2⟩:=evS_ok (w0:=w0) (γ:=γ) r σ1 σ' h hc hkl (by rw[e1];exact hl) (by rw[e1];exact hm)
              refine⟨(quS_allL (β:=fun i=>i) hq h1).1,fun {Q W β a} hg R hK=> ?_⟩
              obtain⟨_,v,h4,_,h5⟩:=quS_allL (β:=β) hq h1
              subst hb
              refine⟨o,v,ho,.inl ⟨by rw[yielded_eq R];exact hw,fun W2 hM=> ?_⟩,h2 hg (h4 w0 W a R) hK⟩
              have hL : LoadsAt W2 β σ o.op := by
                refine⟨fun t x j off y e he hy=> ?_,fun q=> ?_,fun s d x j off l c y e he hy=> ?_⟩
                · have hin := hlk.2
                  simp only[loadIn,e,he,List.contains_eq_mem,decide_eq_true_eq] at hin
                  have:=hM j hin y (by rw[← hm j hin];exact hy)
                  rw[hg j (hkl j hin)]
                  exact this
                · rw[q] at hlk;cases hlk.1
                · have hin := hlk.2
                  simp only[loadIn,e,he,List.contains_eq_mem,decide_eq_true_eq] at hin
                  have:=hM j hin y (by rw[← hm j hin];exact hy)
                  rw[hg j (hkl j hin)]
                  exact this
              rcases h5 W2 a R.v.rt hL with h6|⟨h6,_⟩
              · exact h6
              · rw[h6] at hlk;cases hlk.1
            · cases h
          · cases h
        · rename_i hb
          have hb':b=false:=by simpa using hb
          subst hb'
          split at h
          · rename_i hso
            split at h
            · rename_i σ1 hs
              obtain⟨q1,q2⟩:=outK_mem hso (fun i hi=>Nat.lt_of_lt_of_le (hkl i hi) hl) hs
              have hm1:∀ i ∈ keep,σ1.mem[i]? =m[i]? :=fun i hi=>by rw[q2 i hi];exact hm i hi
              obtain⟨h1,h2⟩:=evS_ok (w0:=w0) (γ:=γ) r σ1 σ' h hc hkl (Nat.le_trans hl q1) hm1
              obtain⟨h3,h4⟩:=stK_wp hs h1
              refine⟨h3,fun {Q W β a} hg R hK=>wh_only ho (by rw[yielded_eq R];exact hw) (h4 R (fun W' β' a' R' hβ=> ?_))⟩
              have hg':∀ i,i<m.length→β' i=γ i:=fun i hi=>by rw[hβ i (by omega)];exact hg i hi
              refine⟨fun k hk y hy=> ?_,h2 hg' R' hK⟩
              have:=R'.m.has k y (by rw[hm1 k hk];exact hy)
              rw[hg' k (hkl k hk)] at this
              exact this
            · cases h
          · cases h
      · rename_i hw
        split at h
        · rename_i hb
          obtain⟨h1,h2⟩:=evS_ok (w0:=w0) (γ:=γ) r (offS σ o) σ' h hc hkl hl hm
          subst hb
          exact⟨h1,fun {Q W β a} hg R hK=>⟨o,undef,ho,.inr ⟨by rw[yielded_eq R];simpa using hw,rfl⟩,h2 hg (R.off o) hK⟩⟩
        · cases h
    · cases h
def evM (E:En P) (keep:List Nat) (π:List (Nat×Bool)) (l:List Oper) (σ:Sy):Option Sy:=
  if Region.noSelect l.toArray && π.length == l.toArray.size && schedB .any l.toArray π (Array.replicate l.toArray.size false) && keep.all (fun i=>decide (i<σ.mem.length)) then evS E l.toArray keep π σ else none
theorem evM_ok {id:Nat} {keep:List Nat} {π:List (Nat×Bool)} (hm:P.follows .mixedOrders=true) {l:List Oper} {σ σ':Sy} (h:evM E keep π l σ=some σ') (hc:σ'.c):σ.c∧∀ {Q:Exit→Act→World→Prop} {w0 W:World} {β:Nat→Nat} {a:Act},Rl E.fk w0 W β σ a→(∀ W' β' a',Rl E.fk w0 W' β' σ' a'→Q .normal a' W')→(Code.region id l.toArray true).wp P Q a W:=by
  unfold evM at h
  split at h
  · rename_i hB
    simp only[Bool.and_eq_true] at hB
    have hkl:∀ i ∈ keep,i<σ.mem.length:=fun i hi=>by
      have:=List.all_eq_true.1 hB.2 i hi
      simpa using this
    refine⟨(evS_ok (w0:=default) (m:=σ.mem) (γ:=fun i=>i) π σ σ' h hc hkl (Nat.le_refl _) (fun _ _=>rfl)).1,fun {Q w0 W β a} R hK=> ?_⟩
    refine Code.wp_mono (Q:=fun e a' W'=>e= .normal∧∃ β',Rl E.fk w0 W' β' σ' a') (fun e a' W' ⟨he,β',R'⟩=>by subst he;exact hK W' β' a' R') ?_
    obtain⟨⟨⟨h1,h2⟩,h3⟩,_⟩:=hB
    simp only[beq_iff_eq] at h2
    refine wp_region_any hm (wpAny_of_held (S:=KeptAt β σ.mem keep) _ _ _ _ ?_)
    have:=wpAnyH_of_sched (P:=P) (Q:=fun(e:Exit) (a':Act) (W':World)=>e= .normal∧∃ β',Rl E.fk w0 W' β' σ' a') (SS:=KeptAt β σ.mem keep) (md:= .any) h1 (fun c a d v w h=>by cases h.1) π _ a W.drew h3 (fun k _ y hy=>R.m.has k y hy) ((evS_ok (m:=σ.mem) (γ:=β) π σ σ' h hc hkl (Nat.le_refl _) (fun _ _=>rfl)).2 (fun _ _=>rfl) ⟨R.m.drew,R.t,R.d,R.ok⟩ (fun W' β' a' R'=>⟨rfl,β',R'⟩))
    rw[h2] at this
    exact this
  · cases h
end
end Go.Ev

set_option linter.unusedSimpArgs false
set_option linter.unusedVariables false
namespace Go.Ev
open Go.RowKit Go.Calm
section
variable {P:Program} {E:En P}
def setAll (γ:Tmp→Nat) (ds:List Tmp) (a:Act):Act:={ a with tmps:=a.tmps.mapIdx fun i v=>if ds.contains i then ptr (γ i) else v }
theorem setAll_nil (γ:Tmp→Nat) (a:Act):setAll γ [] a=a:=by
  unfold setAll
  have:(a.tmps.mapIdx fun i v=>if ([]:List Tmp).contains i then ptr (γ i) else v)=a.tmps:=by
    apply Array.ext<;>simp
  rw[this]
theorem setAll_put {γ:Tmp→Nat} {ds:List Tmp} {a:Act} {d:Tmp} {b:Nat}:(setAll γ ds a).put (some d) (ptr b)=setAll (fun e=>if e=d then b else γ e) (d :: ds) a:=by
  unfold setAll Act.put
  simp only
  congr 1
  apply Array.ext_getElem?
  intro i
  simp only[Array.getElem?_setIfInBounds,Array.getElem?_mapIdx,Array.size_mapIdx,List.contains_cons,Bool.or_eq_true,beq_iff_eq]
  by_cases e:d=i
  · subst e
    by_cases h:d<a.tmps.size
    · simp[h]
    · simp[h]
  · have e' : ¬ i = d := fun h => e h.symm
    simp[e,e']
theorem setAll_ext {γ γ':Tmp→Nat} {ds ds':List Tmp} {a:Act} (h:∀ d,d ∈ ds↔d ∈ ds') (hg:∀ d ∈ ds,γ d=γ' d):setAll γ ds a=setAll γ' ds' a:=by
  unfold setAll
  congr 1
  apply Array.ext
  · simp
  · intro i h1 h2
    simp only[Array.getElem_mapIdx,List.contains_eq_mem,decide_eq_true_eq]
    by_cases e:i ∈ ds
    · rw[if_pos e,if_pos ((h i).1 e),hg i e]
    · rw[if_neg e,if_neg (fun q=>e ((h i).2 q))]
def putL (γ:Tmp→Nat):List Tmp→Act→Act
  | [],a=>a
  |d :: r,a=>putL γ r (a.put (some d) (ptr (γ d)))
theorem putL_set (γ:Tmp→Nat):∀(l ds:List Tmp) (a:Act),putL γ l (setAll γ ds a)=setAll γ (l ++ ds) a
  | [],ds,a=>rfl
  | d :: r, ds, a => by
    show putL γ r ((setAll γ ds a).put (some d) (ptr (γ d)))=_
    rw[setAll_put,setAll_ext (γ':=γ) (ds':=d :: ds) (fun _=>Iff.rfl) (fun e _=>by split<;>simp_all),putL_set γ r (d :: ds) a]
    exact setAll_ext (fun e=>by simp only[List.mem_append,List.mem_cons,List.cons_append];constructor<;>(intro h;rcases h with h|h|h<;>simp[h])) (fun _ _=>rfl)
theorem putL_all (γ:Tmp→Nat) (l:List Tmp) (a:Act):putL γ l a=setAll γ l a:=by
  have:=putL_set γ l [] a
  rwa[setAll_nil,List.append_nil] at this
structure Nw (fk:Nat) (w0 W:World) (β:Nat→Nat) (mem:List Mb) (γ:Tmp→Nat) (ob:Tmp→Array Value×TypeId) (ds:List Tmp):Prop where
  m:Rp fk w0 W β mem
  has:∀ d ∈ ds,W.heap[γ d]? =some (.cells (ob d).1 (ob d).2 (0,0))
  own:∀ d ∈ ds,w0.heap.size≤γ d
  far:∀ d ∈ ds,∀ i,i<mem.length→β i≠γ d
  inj:∀ d ∈ ds,∀ e ∈ ds,γ d=γ e→d=e
theorem Nw.more {fk:Nat} {w0 W:World} {β:Nat→Nat} {mem:List Mb} {γ:Tmp→Nat} {ob:Tmp→Array Value×TypeId} {ds:List Tmp} (N:Nw fk w0 W β mem γ ob ds) (d:Tmp) (hd:d ∉ ds):Nw fk w0 (W.alloc (.cells (ob d).1 (ob d).2)) β mem (fun e=>if e=d then W.heap.size else γ e) ob (d :: ds):=by
  have old:∀ e ∈ ds,¬ e=d:=fun e he h=>hd (h ▸ he)
  refine⟨⟨N.m.below.alloc N.m.below.size _,N.m.own,N.m.inj,fun i x hx=> ?_,N.m.lt,N.m.gl⟩,fun e he=> ?_,fun e he=> ?_,fun e he i hi=> ?_,fun e he f hf h=> ?_⟩
  · rw[heap_alloc_old _ _ _ (lt_of_heap (N.m.has i x hx))];exact N.m.has i x hx
  · rcases List.mem_cons.1 he with rfl | he
    · simp only[if_true];exact heap_alloc_new _ _
    · simp only [if_neg (old e he)]
      rw[heap_alloc_old _ _ _ (lt_of_heap (N.has e he))];exact N.has e he
  · rcases List.mem_cons.1 he with rfl | he
    · simp only[if_true];exact N.m.below.size
    · simp only[if_neg (old e he)];exact N.own e he
  · rcases List.mem_cons.1 he with rfl | he
    · simp only [if_true]
      have:=lt_of_heap (N.m.has i _ (List.getElem?_eq_getElem hi))
      omega
    · simp only[if_neg (old e he)];exact N.far e he i hi
  · have h' : (if e = d then W.heap.size else γ e) = (if f = d then W.heap.size else γ f) := h
    by_cases e1:e=d<;>by_cases e2:f=d
    · rw[e1,e2]
    · have hf' : f ∈ ds := by rcases List.mem_cons.1 hf with q | q; exact absurd q e2; exact q
      rw[if_pos e1,if_neg e2] at h'
      have:=lt_of_heap (N.has f hf')
      omega
    · have he' : e ∈ ds := by rcases List.mem_cons.1 he with q | q; exact absurd q e1; exact q
      rw[if_pos e2,if_neg e1] at h'
      have:=lt_of_heap (N.has e he')
      omega
    · have hf' : f ∈ ds := by rcases List.mem_cons.1 hf with q | q; exact absurd q e2; exact q
      have he':e ∈ ds:=by rcases List.mem_cons.1 he with q|q;exact absurd q e1;exact q
      rw[if_neg e1,if_neg e2] at h'
      exact N.inj e he' f hf' h'
def addL (ob:Tmp→Array Value×TypeId):List Tmp→Sy→Sy
  | [],σ=>σ
  |d :: r,σ=>addL ob r (newS σ (some d) (ob d).1 (ob d).2)
theorem addL_mem (ob:Tmp→Array Value×TypeId):∀(l:List Tmp) (σ:Sy),(addL ob l σ).mem=σ.mem ++ l.map (fun d=>((ob d).1,(ob d).2,(0,0)))∧(addL ob l σ).c=σ.c
  | [],σ=>by simp[addL]
  | d :: r, σ => by
    obtain⟨h1,h2⟩:=addL_mem ob r (newS σ (some d) (ob d).1 (ob d).2)
    unfold addL
    rw[h1,h2]
    exact⟨by simp[newS],rfl⟩
theorem Nw.all {fk : Nat} {w0 W : World} {γ : Tmp → Nat} {ob : Tmp → Array Value × TypeId} : ∀ (l : List Tmp) (β : Nat → Nat) (σ : Sy) (a : Act), σ.mem.length + l.length < big → l.Nodup → Nw fk w0 W β σ.mem γ ob l → Rl fk w0 W β σ a → ∃ β', Rl fk w0 W β' (addL ob l σ) (putL γ l a) ∧ ∀ i, i < σ.mem.length → β' i = β i
  | [],β,σ,a,_,_,_,R=>⟨β,R,fun _ _=>rfl⟩
  | d :: r, β, σ, a, hl, nd, N, R => by
    simp only[List.length_cons] at hl
    have hd:=List.mem_cons_self (a:=d) (l:=r)
    rw[List.nodup_cons] at nd
    have M:=N.m.more (by omega) (N.own d hd) (N.far d hd) (N.has d hd)
    have R':=R.new (some d) M
    have N' : Nw fk w0 W (upd β σ.mem.length (γ d)) (newS σ (some d) (ob d).1 (ob d).2).mem γ ob r := by
      refine⟨M,fun e he=>N.has e (List.mem_cons_of_mem _ he),fun e he=>N.own e (List.mem_cons_of_mem _ he),fun e he i hi=> ?_,fun e he f hf=>N.inj e (List.mem_cons_of_mem _ he) f (List.mem_cons_of_mem _ hf)⟩
      have hi':i<σ.mem.length+1:=by simpa[newS] using hi
      by_cases h:i<σ.mem.length
      · rw[upd_old h];exact N.far e (List.mem_cons_of_mem _ he) i h
      · have : i = σ.mem.length := by omega
        subst this
        rw[upd_new]
        intro h2
        have:=N.inj d hd e (List.mem_cons_of_mem _ he) h2
        subst this
        exact nd.1 he
    obtain⟨β',R'',h⟩:=Nw.all r _ _ _ (by simp[newS];omega) nd.2 N' R'
    refine⟨β',R'',fun i hi=> ?_⟩
    rw[h i (by simp[newS];omega),upd_old hi]
def chkN (md:Region.Mode) (ops:Array Oper) (tail:List (Nat×Bool)):Nat→List (Nat×Tmp)→Array Bool→Bool
  |0,_,l=>schedB md ops tail l
  |n+1,al,l=> !(Region.ready md ops l).isEmpty && (Region.ready md ops l).all (fun j=>al.any fun x=>x.1 == j) && al.all fun x=>decide ((al.filter fun y=>y.1 != x.1).length=n) && chkN md ops tail n (al.filter fun y=>y.1 != x.1) (l.setIfInBounds x.1 true)
def chkP (md:Region.Mode) (ops:Array Oper) (al:List (Nat×Tmp)) (tail:List (Nat×Bool)):List Nat→Array Bool→Bool
  | [],l=>chkN md ops tail al.length al l
  |i :: r,l=>(Region.ready md ops l).contains i && Region.free md ops l i && chkP md ops al tail r (l.setIfInBounds i true)
def isAl (ops:Array Oper) (ob:Tmp→Array Value×TypeId) (x:Nat×Tmp):Prop:=∃ o,ops[x.1]? =some o∧o.op= .alloc (ob x.2).2∧o.dst=some x.2∧o.guard=none
theorem news_ok {fk : Nat} {ops : Array Oper} {tail : List (Nat × Bool)} {Q : Exit → Act → World → Prop} {w0 : World} {β : Nat → Nat} {mem : List Mb} {ob : Tmp → Array Value × TypeId} {al : List (Nat × Tmp)} {a : Act} {md : Region.Mode}
    (hsel:Region.noSelect ops=true) (hQ:∀ c (a:Act) (d:Option Tmp) (v:Value) (w:World),Q (.panic c) (a.put d v) w→Q (.panic c) a w)
    (hz:∀ x ∈ al,(P.info? (ob x.2).2).bind (·.zero)=some (.agg (ob x.2).1)) (hal:∀ x ∈ al,isAl ops ob x) (hx:∀ x ∈ al,∀ y ∈ al,x.2=y.2→x.1=y.1)
    (hK:∀ γ W,Nw fk w0 W β mem γ ob (al.map Prod.snd)→walkH P ops Q (fun W=>Has W β mem) tail (setAll γ (al.map Prod.snd) a) W):
    ∀ (n : Nat) (rest : List (Nat × Tmp)) (l : Array Bool) (γ : Tmp → Nat) (ds : List Tmp) (W : World), rest.length = n → chkN md ops tail n rest l = true → (∀ x ∈ rest, x ∈ al) → (∀ d, d ∈ ds ↔ ∃ x ∈ al, x ∉ rest ∧ x.2 = d) → Nw fk w0 W β mem γ ob ds →
      wpAnyH P md ops Q (fun W=>Has W β mem) (n+tail.length) l (setAll γ ds a) W
  | 0, rest, l, γ, ds, W, hn, hB, hs, hd, N => by
    have hr:rest= []:=List.length_eq_zero_iff.1 hn
    subst hr
    have hset:∀ d,d ∈ ds↔d ∈ al.map Prod.snd:=fun d=>by rw[hd];simp
    have N':Nw fk w0 W β mem γ ob (al.map Prod.snd):=⟨N.m,fun d h=>N.has d ((hset d).2 h),fun d h=>N.own d ((hset d).2 h),fun d h=>N.far d ((hset d).2 h),fun d h e h'=>N.inj d ((hset d).2 h) e ((hset e).2 h')⟩
    have h:=hK γ W N'
    rw[← setAll_ext (γ:=γ) (γ':=γ) hset (fun _ _=>rfl)] at h
    rw[Nat.zero_add]
    exact wpAnyH_of_sched hsel hQ tail l _ W hB (N.m.has) h
  | n + 1, rest, l, γ, ds, W, hn, hB, hs, hd, N => by
    simp only[chkN,Bool.and_eq_true,Bool.not_eq_true',List.all_eq_true,List.any_eq_true,beq_iff_eq] at hB
    obtain⟨⟨h0,h1⟩,h2⟩:=hB
    rw[show n+1+tail.length=(n+tail.length)+1 by omega]
    refine⟨fun h=>by rw[h] at h0;simp at h0,fun j hj=> ?_⟩
    obtain⟨x,hxr,rfl⟩:=h1 j hj
    obtain⟨o,ho,hop,hdst,hg⟩:=hal x (hs x hxr)
    refine wpOp_of_yields (Φ:=fun v w'=>v=ptr W.heap.size∧w'=W.alloc (.cells (ob x.2).1 (ob x.2).2)) ho (by simp[Region.wanted,hg]) (by rw[run_alloc hop (hz x (hs x hxr)) _ W];exact⟨rfl,rfl⟩) fun v w' ⟨e1,e2⟩=> ?_
    subst e1 e2
    have hnd : x.2 ∉ ds := fun h => by
      obtain⟨y,hy,hyr,e⟩:=(hd _).1 h
      have e1:=hx y hy x (hs x hxr) e
      exact hyr (by have : y = x := Prod.ext e1 e
                    rw[this];exact hxr)
    have N':=N.more x.2 hnd
    refine⟨N'.m.has,?_⟩
    rw[hdst,setAll_put]
    have h3:=h2 x hxr
    obtain⟨hlen,hB'⟩:=h3
    have one:∀ y ∈ al,y.1=x.1→y=x:=fun y hy e=>by
      obtain⟨o',ho',_,hd',_⟩:=hal y hy
      rw[e,ho] at ho'
      injection ho' with ho'
      subst ho'
      rw[hdst] at hd'
      injection hd' with hd'
      exact Prod.ext e hd'.symm
    refine news_ok hsel hQ hz hal hx hK n _ _ _ _ _ (by simpa using hlen) hB' (fun y hy=>hs y (List.mem_filter.1 hy).1) (fun d=> ?_) N'
    rw[List.mem_cons,hd]
    constructor
    · rintro (rfl | ⟨y, hy, hyr, rfl⟩)
      · exact⟨x,hs x hxr,by simp,rfl⟩
      · exact⟨y,hy,fun h=>hyr (List.mem_filter.1 h).1,rfl⟩
    · rintro ⟨y, hy, hyr, rfl⟩
      by_cases e:y.1=x.1
      · left;rw[one y hy e]
      · right
        refine⟨y,hy,fun h=>hyr (List.mem_filter.2 ⟨h,by simpa using e⟩),rfl⟩
def evQ (E : En P) (ops : Array Oper) : List Nat → Sy → Option Sy
  | [],σ=>some σ
  | i :: r, σ => (match ops[i]? with
    |some o=>if Region.wanted o (yielded ops σ.tm.toArray) then(if callB o.op then none else(match quS E σ o with|some σ'=>evQ E ops r σ'|none=>none)) else evQ E ops r (offS σ o)
    |none=>none)
theorem evQ_ok {ops : Array Oper} {w0 W : World} {β : Nat → Nat} {al : List (Nat × Tmp)} {tail : List (Nat × Bool)} {Q : Exit → Act → World → Prop} {k : Nat} {md : Region.Mode} (hsel : Region.noSelect ops = true) (hQ : ∀ c (a : Act) (d : Option Tmp) (v : Value) (w : World), Q (.panic c) (a.put d v) w → Q (.panic c) a w) :
    ∀ (π : List Nat) (σ σ' : Sy), evQ E ops π σ = some σ' → σ'.c → σ.c ∧ σ'.mem = σ.mem ∧ ∀ {a : Act} {l : Array Bool}, Rl E.fk w0 W β σ a → chkP md ops al tail π l = true →
      (∀ a' l',Rl E.fk w0 W β σ' a'→chkN md ops tail al.length al l'=true→wpAnyH P md ops Q (fun W=>Has W β σ.mem) k l' a' W)→wpAnyH P md ops Q (fun W=>Has W β σ.mem) (π.length+k) l a W
  | [], σ, σ', h, hc => by
    simp only[evQ,Option.some.injEq] at h
    subst h
    refine⟨hc,rfl,fun {a l} R hB hK=> ?_⟩
    have:=hK a l R hB
    simpa using this
  | i :: r, σ, σ', h, hc => by
    unfold evQ at h
    split at h
    · rename_i o ho
      split at h
      · rename_i hw
        split at h
        · cases h
        · rename_i hb
          split at h
          · rename_i σ1 hq
            obtain⟨h1,hm1,h2⟩:=evQ_ok (al:=al) (tail:=tail) (k:=k) (md:=md) (w0:=w0) (W:=W) (β:=β) hsel hQ r σ1 σ' h hc
            obtain⟨h3,v,h4,hm2,h5⟩:=quS_all (β:=β) hq h1
            refine⟨h3,hm1.trans hm2,fun {a l} R hB hK=> ?_⟩
            simp only[chkP,Bool.and_eq_true] at hB
            obtain⟨⟨hr,hf⟩,hB'⟩:=hB
            rw[show(i :: r).length+k=(r.length+k)+1 by simp;omega]
            refine wpAnyH_first ho (Region.noSelect_spec hsel) (fun c a w h=>hQ c a o.dst v w h) _ _ _ W (Region.free_spec ho hf) (by simpa using hr) (.inl ⟨by rw[yielded_eq R];exact hw,fun W2 hM=> ?_⟩) (R.m.has) ?_
            · have hv : Rv E.fk W2 β σ a := ⟨hM, R.t, R.v.gl⟩
              rcases h5 W2 a hv with h6|⟨h6,_⟩
              · exact h6
              · rw[h6] at hb;exact absurd rfl hb
            · rw [← hm2] at hK ⊢
              exact h2 (h4 w0 W a R) hB' hK
          · cases h
      · rename_i hw
        obtain⟨h1,hm1,h2⟩:=evQ_ok (al:=al) (tail:=tail) (k:=k) (md:=md) (w0:=w0) (W:=W) (β:=β) hsel hQ r (offS σ o) σ' h hc
        refine⟨h1,hm1,fun {a l} R hB hK=> ?_⟩
        simp only[chkP,Bool.and_eq_true] at hB
        obtain⟨⟨hr,hf⟩,hB'⟩:=hB
        rw[show(i :: r).length+k=(r.length+k)+1 by simp;omega]
        refine wpAnyH_first (v:=undef) ho (Region.noSelect_spec hsel) (fun c a w h=>hQ c a o.dst undef w h) _ _ _ W (Region.free_spec ho hf) (by simpa using hr) (.inr ⟨by rw[yielded_eq R];simpa using hw,rfl⟩) (R.m.has) ?_
        exact h2 (R.off o) hB' hK
    · cases h
def obOf (E:En P) (l:List Oper) (d:Tmp):Array Value×TypeId:=match l.find? (fun o=>o.dst == some d) with
  |some o=>(match o.op with| .alloc t=>(match E.Z t with|some cs=>(cs,t)|none=>(#[],0))|_=>(#[],0))
  |none=>(#[],0)
def alOk (E : En P) (l : List Oper) (x : Nat × Tmp) : Bool := match l[x.1]? with
  | some o => (match o.op, o.guard with
    | .alloc t,none=>decide (o.dst=some x.2) && decide ((obOf E l x.2).2=t) && (E.Z t).isSome && ((obOf E l x.2).1.size != 0)
    |_,_=>false)
  |none=>false
def evP (E : En P) (al : List (Nat × Tmp)) (π : List Nat) (tail : List (Nat × Bool)) (l : List Oper) (σ : Sy) : Option Sy :=
  if Nat.blt (σ.mem.length + al.length) big && Region.noSelect l.toArray && π.length + (al.length + tail.length) == l.toArray.size && chkP .any l.toArray al tail π (Array.replicate l.toArray.size false) && al.all (alOk E l) && decide ((al.map Prod.snd).Nodup) && (al.all fun x => al.all fun y => x.2 != y.2 || x.1 == y.1) then
    (match evQ E l.toArray π σ with|some σ1=>evT E l.toArray σ.mem.length tail (addL (obOf E l) (al.map Prod.snd) σ1)|none=>none) else none
theorem ob_z {l:List Oper} {d:Tmp} (h0:(obOf E l d).1.size≠0):(P.info? (obOf E l d).2).bind (·.zero)=some (.agg (obOf E l d).1):=by
  unfold obOf at h0 ⊢
  cases hf:l.find? (fun o=>o.dst == some d) with
  |none=>simp[hf] at h0
  | some o =>
    simp only[hf] at h0 ⊢
    cases hop:o.op
    case alloc t=>
      simp only[hop] at h0 ⊢
      cases hz:E.Z t with
      |none=>simp[hz] at h0
      |some cs=>simp only[hz];exact E.hZ t cs hz
    all_goals(simp only[hop] at h0;exact absurd rfl h0)
theorem evP_ok {id : Nat} {al : List (Nat × Tmp)} {π : List Nat} {tail : List (Nat × Bool)} (hm : P.follows .mixedOrders = true) {l : List Oper} {σ σ' : Sy} (h : evP E al π tail l σ = some σ') (hc : σ'.c) : σ.c ∧ ∀ {Q : Exit → Act → World → Prop} {w0 W : World} {β : Nat → Nat} {a : Act}, Rl E.fk w0 W β σ a → (∀ W' β' a', Rl E.fk w0 W' β' σ' a' → Q .normal a' W') → (Code.region id l.toArray true).wp P Q a W := by
  unfold evP at h
  split at h
  · rename_i hB
    simp only[Bool.and_eq_true,beq_iff_eq,decide_eq_true_eq,List.all_eq_true,Bool.or_eq_true,bne_iff_ne,ne_eq] at hB
    obtain⟨⟨⟨⟨⟨⟨hl,h1⟩,h2⟩,h3⟩,h4⟩,h5⟩,h6⟩:=hB
    have hl:σ.mem.length+al.length<big:=by simpa using hl
    split at h
    · rename_i σ1 hq
      obtain⟨m1,m2⟩:=addL_mem (obOf E l) (al.map Prod.snd) σ1
      have ht:=(evT_ok (w0:=default) (m:=σ.mem) (γ:=fun i=>i) tail _ _ h hc).1
      rw[m2] at ht
      have hσ:=evQ_ok (E:=E) (w0:=default) (W:=default) (β:=fun i=>i) (al:=al) (tail:=tail) (Q:=fun _ _ _=>True) (k:=0) (md:= .any) h1 (fun _ _ _ _ _ _=>trivial) π σ σ1 hq ht
      refine⟨hσ.1,fun {Q w0 W β a} R hK=> ?_⟩
      have hm1:=hσ.2.1
      refine Code.wp_mono (Q:=fun e a' W'=>e= .normal∧∃ β',Rl E.fk w0 W' β' σ' a') (fun e a' W' ⟨he,β',R'⟩=>by subst he;exact hK W' β' a' R') ?_
      refine wp_region_any hm (wpAny_of_held (S:=fun W=>Has W β σ.mem) _ _ _ _ ?_)
      have hQ:∀ c (a:Act) (d:Option Tmp) (v:Value) (w:World),(fun(e:Exit) (a':Act) (W':World)=>e= .normal∧∃ β',Rl E.fk w0 W' β' σ' a') (.panic c) (a.put d v) w→(fun(e:Exit) (a':Act) (W':World)=>e= .normal∧∃ β',Rl E.fk w0 W' β' σ' a') (.panic c) a w:=fun c a d v w h=>by cases h.1
      have go : wpAnyH P .any l.toArray (fun (e : Exit) (a' : Act) (W' : World) => e = .normal ∧ ∃ β', Rl E.fk w0 W' β' σ' a') (fun W => Has W β σ.mem) (π.length + (al.length + tail.length)) (Array.replicate l.toArray.size false) a W.drew := by
       refine(evQ_ok (E:=E) (w0:=w0) (W:=W.drew) (β:=β) (al:=al) (tail:=tail) (k:=al.length+tail.length) (md:= .any) h1 hQ π σ σ1 hq ht).2.2 ⟨R.m.drew,R.t,R.d,R.ok⟩ h3 (fun a1 l1 R1 hN=> ?_)
       have isal : ∀ x ∈ al, isAl l.toArray (obOf E l) x ∧ (P.info? (obOf E l x.2).2).bind (·.zero) = some (.agg (obOf E l x.2).1) := fun x hx => by
         have:=h4 x hx
         unfold alOk at this
         split at this
         · rename_i o ho
           split at this
           · rename_i t e1 e2
             simp only[Bool.and_eq_true,decide_eq_true_eq,bne_iff_ne,ne_eq] at this
             obtain⟨⟨⟨q1,q2⟩,q3⟩,q4⟩:=this
             exact⟨⟨o,by simpa using ho,by rw[e1,q2],q1,e2⟩,ob_z q4⟩
           · cases this
         · cases this
       have h0:Nw E.fk w0 W.drew β σ.mem (fun _=>0) (obOf E l) []:=⟨R.m.drew,by simp,by simp,by simp,by simp⟩
       have fin:=news_ok (P:=P) (ops:=l.toArray) (tail:=tail) (Q:=fun(e:Exit) (a':Act) (W':World)=>e= .normal∧∃ β',Rl E.fk w0 W' β' σ' a') (w0:=w0) (β:=β) (mem:=σ.mem) (ob:=obOf E l) (al:=al) (a:=a1) (md:= .any) h1 hQ (fun x hx=>(isal x hx).2) (fun x hx=>(isal x hx).1) (fun x hx y hy e=>by rcases h6 x hx y hy with q|q;exact absurd e q;exact q) (fun γ W2 N=> ?_) al.length al l1 (fun _=>0) [] W.drew rfl hN (fun x hx=>hx) (fun d=>by constructor;intro h;cases h;rintro ⟨x,hx,hn,_⟩;exact absurd hx hn) h0
       · rw [setAll_nil] at fin
         exact fin
       · rw [← putL_all]
         have N1:Nw E.fk w0 W2 β σ1.mem γ (obOf E l) (al.map Prod.snd):=by rw[hm1];exact N
         have RW:Rl E.fk w0 W2 β σ1 a1:=⟨by rw[hm1];exact N.m,R1.t,R1.d,R1.ok⟩
         obtain⟨β',R2,hβ⟩:=Nw.all (al.map Prod.snd) β σ1 a1 (by rw[hm1,List.length_map];exact hl) h5 N1 RW
         refine(evT_ok (m:=σ.mem) (γ:=β) tail _ _ h hc).2 ?_ (fun i hi=> ?_) (fun i hi=> ?_) R2 (fun W3 β3 a3 R3=>⟨rfl,β3,R3⟩)
         · rw[m1,hm1];simp
         · rw[m1,hm1,List.getElem?_append_left hi]
         · exact hβ i (by rw[hm1];exact hi)
      rw[h2] at go
      exact go
    · cases h
  · cases h
end
end Go.Ev

set_option linter.unusedSimpArgs false
set_option linter.unusedVariables false
/-! A region that draws: taken operations, then calls in a row while one new variable may be made at any time, then a tail. -/
namespace Go.Ev
open Go.RowKit Go.Calm
section
variable {P:Program} {E:En P}
def nslot (d:Tmp):Operand→Bool
  | .tmp t=> !Nat.beq t d
  |_=>true
def clOk (d:Tmp) (o:Oper):Bool:=match o with
  |⟨dst,.call ⟨.value (.func _),xs,_⟩,_,_,_,none⟩=>xs.toList.all (fun x=>opk x && nslot d x) && (match dst with|some e=> !Nat.beq e d|none=>true)
  |_=>false
theorem nslot_ev {d:Tmp} {x:Operand} (h:nslot d x=true) (a:Act) (v:Value):(a.put (some d) v).eval x=a.eval x:=by
  cases x with
  | tmp t =>
    have hne:¬ d=t:=fun e=>by
      subst e
      simp[nslot] at h
    show(a.tmps.setIfInBounds d v).getD t undef=a.tmps.getD t undef
    rw[Array.getD_eq_getD_getElem?,Array.getD_eq_getD_getElem?,Array.getElem?_setIfInBounds,if_neg hne]
  |_=>rfl
theorem put_comm {a:Act} {dst:Option Tmp} {d:Tmp} {v p:Value} (h:dst≠some d):(a.put (some d) p).put dst v=(a.put dst v).put (some d) p:=by
  cases dst with
  |none=>rfl
  | some e =>
    have hne:¬ e=d:=fun q=>h (by rw[q])
    unfold Act.put
    simp only
    congr 1
    rw[Array.setIfInBounds_comm _ _ (fun q=>hne q.symm)]
theorem clOk_of {d:Tmp} {o:Oper} (h:clOk d o=true):∃ dst f xs ts ty pos after,o=⟨dst,.call ⟨.value (.func f),xs,ts⟩,ty,pos,after,none⟩∧(∀ x ∈ xs.toList,opk x=true∧nslot d x=true)∧dst≠some d:=by
  unfold clOk at h
  split at h
  · rename_i dst f xs ts ty pos after
    simp only[Bool.and_eq_true,List.all_eq_true] at h
    refine⟨dst,f,xs,ts,ty,pos,after,rfl,h.1,fun e=> ?_⟩
    subst e
    simp at h
  · cases h
theorem stK_call {σ σ' : Sy} {o : Oper} {d : Tmp} (hcl : clOk d o = true) (h : stK E σ o = some σ') (hc : σ'.c) : σ.c ∧ ∀ {Q : Exit → Act → World → Prop} {K : Act → World → Prop} {w0 W : World} {β : Nat → Nat} {a : Act} {p : Value}, Rl E.fk w0 W β σ a → (∀ W' β' a', Rl E.fk w0 W' β' σ' a' → (∀ i, i < σ.mem.length → β' i = β i) → Below W.heap.size W W' → (∀ i, σ.mem.length ≤ i → i < σ'.mem.length → W.heap.size ≤ β' i) → σ.mem.length ≤ σ'.mem.length → K (a'.put (some d) p) W') → o.wp P (a.put (some d) p) W K Q := by
  obtain⟨dst,f,as,ts,ty,pos,after,rfl,hx,hd⟩:=clOk_of hcl
  have hmap:∀(a:Act) (p:Value),as.map (a.put (some d) p).eval=as.map a.eval:=fun a p=>Array.map_congr_left fun x hx'=>nslot_ev (hx x (by simpa using hx')).2 a p
  unfold stK at h
  simp only at h
  have viaP : stP E σ ⟨dst, .call ⟨.value (.func f), as, ts⟩, ty, pos, after, none⟩ = some σ' → σ.c ∧ ∀ {Q : Exit → Act → World → Prop} {K : Act → World → Prop} {w0 W : World} {β : Nat → Nat} {a : Act} {p : Value}, Rl E.fk w0 W β σ a → (∀ W' β' a', Rl E.fk w0 W' β' σ' a' → (∀ i, i < σ.mem.length → β' i = β i) → Below W.heap.size W W' → (∀ i, σ.mem.length ≤ i → i < σ'.mem.length → W.heap.size ≤ β' i) → σ.mem.length ≤ σ'.mem.length → K (a'.put (some d) p) W') → Oper.wp P ⟨dst, .call ⟨.value (.func f), as, ts⟩, ty, pos, after, none⟩ (a.put (some d) p) W K Q := fun hP => by
    have hq:quS E σ ⟨dst,.call ⟨.value (.func f),as,ts⟩,ty,pos,after,none⟩=some σ':=by simpa[stP] using hP
    refine⟨(quS_all (β:=fun i=>i) hq hc).1,fun {Q K w0 W β a p} R hK=> ?_⟩
    obtain⟨_,v,h4,hm2,h5⟩:=quS_all (β:=β) hq hc
    have he:execOp (a.put (some d) p).eval ⟨dst,.call ⟨.value (.func f),as,ts⟩,ty,pos,after,none⟩=execOp a.eval ⟨dst,.call ⟨.value (.func f),as,ts⟩,ty,pos,after,none⟩:=by
      have h1:=hmap a p
      have h2:(a.put (some d) p).eval (.func f)=a.eval (.func f):=rfl
      simp only[execOp,resolve,h1,h2]
    have R':=h4 w0 W a R
    unfold Oper.wp
    rw[he]
    rcases h5 W a R.v with h6|⟨_,g,args,h6,h7⟩
    · rw [h6]
      show K ((a.put (some d) p).put dst v) W
      rw[put_comm hd]
      exact hK W β _ R' (fun _ _=>rfl) (Below.refl _ _) (fun i h1 h2=>by rw[hm2] at h2;omega) (by rw[hm2];exact Nat.le_refl _)
    · rw [h6, Oper.upon_enter]
      refine h7.mono ?_
      rintro e W' ⟨rfl,hB⟩
      show K ((a.put (some d) p).put dst v) W'
      rw[put_comm hd]
      exact hK W' β _ ⟨R'.m.call hB,R'.t,R'.d,R'.ok⟩ (fun _ _=>rfl) hB (fun i h1 h2=>by rw[hm2] at h2;omega) (by rw[hm2];exact Nat.le_refl _)
  split at h
  · rename_i hk
    simp only[Bool.and_eq_true] at hk
    obtain⟨hk,hl⟩:=hk
    have hl:σ.mem.length+1<big:=by simpa using hl
    split at h
    · rename_i cs t n k c hm
      simp only[Option.some.injEq] at h
      subst h
      obtain⟨h1,h2⟩:=hc
      refine⟨h1,fun {Q K w0 W β a p} R hK=> ?_⟩
      have e:as.map (a.put (some d) p).eval=((as.toList.map (opn σ.tm)).map (rn β)).toArray:=by
        rw[hmap,List.map_map,← List.map_toArray]
        apply Array.map_congr_left
        intro x hx'
        exact R.ev (hx x (by simpa using hx')).1
      have hr:(execOp (a.put (some d) p).eval ⟨dst,.call ⟨.value (.func f),as,ts⟩,ty,pos,after,none⟩).run P W= .ok (.enter f (as.map (a.put (some d) p).eval)) W:=by
        have h2:=E.hMC f _ _ _ hm
        go_simp
      unfold Oper.wp
      rw[hr,e,Oper.upon_enter]
      refine(E.hM f _ _ cs t n k c hm h2 W β R.m.has R.v.gl).mono ?_
      rintro e W' ⟨b,rfl,hb,hcs,hB⟩
      have far:∀ i,i<σ.mem.length→β i≠b:=fun i hi=>by
        have:=lt_of_heap (R.m.has i _ (List.getElem?_eq_getElem hi))
        omega
      have R':=R.newV dst n k ((R.m.call hB).more hl (Nat.le_trans R.m.below.size hb) far hcs) (σ.c∧c)
      show K ((a.put (some d) p).put dst _) W'
      rw[put_comm hd]
      refine hK _ _ _ R' (fun i hi=>upd_old hi) hB (fun i h1 h2=> ?_) (by simp)
      have:i=σ.mem.length:=by simp at h2;omega
      subst this
      rw[upd_new]
      exact hb
    · exact viaP h
  · exact viaP h
def evCh (E : En P) (ops : Array Oper) (d : Tmp) : List Nat → Sy → Option Sy
  | [],σ=>some σ
  | i :: r, σ => (match ops[i]? with
    |some o=>if clOk d o then(match stK E σ o with|some σ'=>evCh E ops d r σ'|none=>none) else none
    |none=>none)
def chkC (md:Region.Mode) (ops:Array Oper) (x:Nat) (tail:List (Nat×Bool)):Nat→List Nat→Bool→Array Bool→Bool
  |0,[],false,l=>schedB md ops tail l
  |n+1,[],true,l=>decide (Region.ready md ops l= [x]) && chkC md ops x tail n [] false (l.setIfInBounds x true)
  |n+1,i :: r,true,l=> !(Region.ready md ops l).isEmpty && (Region.ready md ops l).all (fun j=>j == i || j == x) && chkC md ops x tail n r true (l.setIfInBounds i true) && chkC md ops x tail n (i :: r) false (l.setIfInBounds x true)
  |n+1,i :: r,false,l=>decide (Region.ready md ops l= [i]) && chkC md ops x tail n r false (l.setIfInBounds i true)
  |_,_,_,_=>false
theorem clOk_w {d:Tmp} {o:Oper} (h:clOk d o=true) {y:Nat→Option Bool}:Region.wanted o y=true:=by
  obtain⟨dst,f,as,ts,ty,pos,after,rfl,_,_⟩:=clOk_of h
  simp[Region.wanted]
theorem chain_ok {ops : Array Oper} {tail : List (Nat × Bool)} {md : Region.Mode} {Q : Exit → Act → World → Prop} {w0 : World} {m : List Mb} {γ : Nat → Nat} {x : Nat} {d : Tmp} {ox : Oper} {t : TypeId} {cs : Array Value}
    (hsel:Region.noSelect ops=true) (hQ:∀ c (a:Act) (d:Option Tmp) (v:Value) (w:World),Q (.panic c) (a.put d v) w→Q (.panic c) a w)
    (hx:ops[x]? =some ox) (hop:ox.op= .alloc t) (hdst:ox.dst=some d) (hg:ox.guard=none) (hz:(P.info? t).bind (·.zero)=some (.agg cs)):
    ∀ (n : Nat) (chain : List Nat) (pend : Bool) (σ σ2 : Sy), chain.length + (if pend then 1 else 0) = n → evCh E ops d chain σ = some σ2 → σ2.c → σ2.mem.length + 1 < big → m.length ≤ σ.mem.length → (∀ i, i < m.length → σ.mem[i]? = m[i]?) → σ.c ∧ ∀ {W : World} {β : Nat → Nat} {a : Act} {l : Array Bool}, (∀ i, i < m.length → β i = γ i) → Rl E.fk w0 W β σ a → chkC md ops x tail n chain pend l = true →
      (∀ W' β' a',m.length≤σ2.mem.length→(∀ i,i<m.length→σ2.mem[i]? =m[i]?)→(∀ i,i<m.length→β' i=γ i)→Rl E.fk w0 W' β' (newS σ2 (some d) cs t) a'→walkH P ops Q (fun W=>Has W γ m) tail a' W')→
      (pend=true→wpAnyH P md ops Q (fun W=>Has W γ m) (n+tail.length) l a W)∧
      (pend=false→∀ b,w0.heap.size≤b→(∀ i,i<σ.mem.length→β i≠b)→W.heap[b]? =some (.cells cs t (0,0))→wpAnyH P md ops Q (fun W=>Has W γ m) (n+tail.length) l (a.put (some d) (ptr b)) W):=by
  have has:∀ {W:World} {β:Nat→Nat} {σ:Sy} {a:Act},(∀ i,i<m.length→σ.mem[i]? =m[i]?)→(∀ i,i<m.length→β i=γ i)→Rl E.fk w0 W β σ a→Has W γ m:=fun hm hγ R i y hy=>by
    have hi:=(List.getElem?_eq_some_iff.1 hy).1
    rw[← hγ i hi]
    exact R.m.has i y (by rw[hm i hi];exact hy)
  intro n
  induction n with
  | zero =>
    intro chain pend σ σ2 hn h hc hlt hl hm
    have hch:chain= []:=List.length_eq_zero_iff.1 (by omega)
    have hp:pend=false:=by cases pend with|false=>rfl|true=>simp at hn
    subst hch hp
    simp only[evCh,Option.some.injEq] at h
    subst h
    refine⟨hc,fun {W β a l} hγ R hB hK=>⟨fun e=>(by cases e),fun _ b hb hf hh=> ?_⟩⟩
    have hB:schedB md ops tail l=true:=by simpa[chkC] using hB
    have M:=R.m.more hlt hb hf hh
    have R':=R.new (some d) M
    have hγ':∀ i,i<m.length→upd β σ.mem.length b i=γ i:=fun i hi=>by rw[upd_old (by omega)];exact hγ i hi
    rw[Nat.zero_add]
    refine wpAnyH_of_sched hsel hQ tail l _ W hB (has hm hγ R) ?_
    exact hK W _ _ hl hm hγ' R'
  | succ n ih =>
    intro chain pend σ σ2 hn h hc hlt hl hm
    cases chain with
    | nil =>
      have hp:pend=true:=by cases pend with|true=>rfl|false=>simp at hn
      subst hp
      have hn0:n=0:=by simpa using hn.symm
      subst hn0
      have h':=h
      simp only[evCh,Option.some.injEq] at h'
      subst h'
      refine⟨hc,fun {W β a l} hγ R hB hK=>⟨fun _=> ?_,fun e=>by cases e⟩⟩
      simp only[chkC,Bool.and_eq_true,decide_eq_true_eq] at hB
      rw[show 0+1+tail.length=tail.length+1 by omega]
      refine⟨fun e=>(by rw[hB.1] at e;cases e),fun j hj=> ?_⟩
      rw[hB.1] at hj
      have hj:j=x:=by simpa using hj
      subst hj
      refine wpOp_of_yields (Φ:=fun v w'=>v=ptr W.heap.size∧w'=W.alloc (.cells cs t)) hx (by simp[Region.wanted,hg]) (by rw[run_alloc hop hz _ W];exact⟨rfl,rfl⟩) fun v w' ⟨e1,e2⟩=> ?_
      subst e1 e2
      have far:∀ i,i<σ.mem.length→β i≠W.heap.size:=fun i hi=>by
        have:=lt_of_heap (R.m.has i _ (List.getElem?_eq_getElem hi));omega
      have R1:Rl E.fk w0 (W.alloc (.cells cs t)) β σ a:=⟨⟨R.m.below.alloc R.m.below.size _,R.m.own,R.m.inj,fun i y hy=>by rw[heap_alloc_old _ _ _ (lt_of_heap (R.m.has i y hy))];exact R.m.has i y hy,R.m.lt,R.m.gl⟩,R.t,R.d,R.ok⟩
      refine⟨has hm hγ R1,?_⟩
      rw[hdst]
      have:=((ih [] false σ σ rfl rfl hc hlt hl hm).2 hγ R1 hB.2 hK).2 rfl W.heap.size R.m.below.size far (heap_alloc_new _ _)
      rwa[Nat.zero_add] at this
    | cons i r =>
      unfold evCh at h
      split at h
      · rename_i o ho
        split at h
        · rename_i hcl
          split at h
          · rename_i σ1 hs
            have hmono : σ.mem.length ≤ σ1.mem.length ∧ ∀ k, k < σ.mem.length → σ1.mem[k]? = σ.mem[k]? := by
              obtain⟨dst,f,as,ts,ty,pos,after,rfl,_,_⟩:=clOk_of hcl
              have hP:stP E σ ⟨dst,.call ⟨.value (.func f),as,ts⟩,ty,pos,after,none⟩=some σ1→σ.mem.length≤σ1.mem.length∧∀ k,k<σ.mem.length→σ1.mem[k]? =σ.mem[k]? :=fun hP=>by
                have hq:quS E σ ⟨dst,.call ⟨.value (.func f),as,ts⟩,ty,pos,after,none⟩=some σ1:=by simpa[stP] using hP
                rw[quS_mem hq];exact⟨Nat.le_refl _,fun _ _=>rfl⟩
              unfold stK at hs
              simp only at hs
              split at hs
              · split at hs
                · simp only [Option.some.injEq] at hs
                  subst hs
                  refine⟨by simp,fun k hk=> ?_⟩
                  exact List.getElem?_append_left hk
                · exact hP hs
              · exact hP hs
            have hl1:m.length≤σ1.mem.length:=Nat.le_trans hl hmono.1
            have hm1:∀ k,k<m.length→σ1.mem[k]? =m[k]? :=fun k hk=>by rw[hmono.2 k (by omega)];exact hm k hk
            cases pend with
            | false =>
              have hn':r.length+(if (false:Bool)=true then 1 else 0)=n:=by simpa using hn
              obtain⟨hc1,hr⟩:=ih r false σ1 σ2 hn' h hc hlt hl1 hm1
              obtain⟨h3,h4⟩:=stK_call hcl hs hc1
              refine⟨h3,fun {W β a l} hγ R hB hK=>⟨fun e=>(by cases e),fun _ b hb hf hh=> ?_⟩⟩
              simp only[chkC,Bool.and_eq_true,decide_eq_true_eq] at hB
              rw[show n+1+tail.length=(n+tail.length)+1 by omega]
              refine⟨fun e=>(by rw[hB.1] at e;cases e),fun j hj=> ?_⟩
              rw[hB.1] at hj
              have hj:j=i:=by simpa using hj
              subst hj
              unfold wpOp
              simp only[ho,clOk_w hcl,if_true]
              refine .inl (h4 R fun W' β' a' R' hβ hBl hnew hle=> ?_)
              have hγ':∀ k,k<m.length→β' k=γ k:=fun k hk=>by rw[hβ k (by omega)];exact hγ k hk
              have hlt':=lt_of_heap hh
              refine⟨has hm1 hγ' R',(hr hγ' R' hB.2 hK).2 rfl b hb (fun k hk e=> ?_) (by rw[hBl.block _ hlt'];exact hh)⟩
              by_cases hk2:k<σ.mem.length
              · rw[hβ k hk2] at e;exact hf k hk2 e
              · have:=hnew k (by omega) hk;omega
            | true =>
              have hn':r.length+(if (true:Bool)=true then 1 else 0)=n:=by simpa using(by simpa using hn:r.length+1=n)
              obtain⟨hc1,hr⟩:=ih r true σ1 σ2 hn' h hc hlt hl1 hm1
              have hself:evCh E ops d (i :: r) σ=some σ2:=by
                unfold evCh
                rw[ho]
                simp only[hcl,if_true,hs]
                exact h
              obtain⟨h3,h4⟩:=stK_wp hs hc1
              have hn2:(i :: r).length+(if (false:Bool)=true then 1 else 0)=n:=by simpa using hn
              obtain⟨_,hd2⟩:=ih (i :: r) false σ σ2 hn2 hself hc hlt hl hm
              refine⟨h3,fun {W β a l} hγ R hB hK=>⟨fun _=> ?_,fun e=>(by cases e)⟩⟩
              unfold chkC at hB
              simp only[Bool.and_eq_true,Bool.not_eq_true',List.all_eq_true,Bool.or_eq_true,beq_iff_eq] at hB
              obtain⟨⟨⟨h0,h1⟩,hBr⟩,hBx⟩:=hB
              rw[show n+1+tail.length=(n+tail.length)+1 by omega]
              refine⟨fun e=>(by rw[e] at h0;simp at h0),fun j hj=> ?_⟩
              rcases h1 j hj with rfl|rfl
              · unfold wpOp
                simp only[ho,clOk_w hcl,if_true]
                refine .inl (h4 R fun W' β' a' R' hβ=> ?_)
                have hγ':∀ k,k<m.length→β' k=γ k:=fun k hk=>by rw[hβ k (by omega)];exact hγ k hk
                exact⟨has hm1 hγ' R',(hr hγ' R' hBr hK).1 rfl⟩
              · refine wpOp_of_yields (Φ := fun v w' => v = ptr W.heap.size ∧ w' = W.alloc (.cells cs t)) hx (by simp [Region.wanted, hg]) (by rw [run_alloc hop hz _ W]; exact ⟨rfl, rfl⟩) fun v w' ⟨e1, e2⟩ => ?_
                subst e1 e2
                have far:∀ k,k<σ.mem.length→β k≠W.heap.size:=fun k hk=>by
                  have:=lt_of_heap (R.m.has k _ (List.getElem?_eq_getElem hk));omega
                have R1:Rl E.fk w0 (W.alloc (.cells cs t)) β σ a:=⟨⟨R.m.below.alloc R.m.below.size _,R.m.own,R.m.inj,fun k y hy=>by rw[heap_alloc_old _ _ _ (lt_of_heap (R.m.has k y hy))];exact R.m.has k y hy,R.m.lt,R.m.gl⟩,R.t,R.d,R.ok⟩
                refine⟨has hm hγ R1,?_⟩
                rw[hdst]
                exact(hd2 hγ R1 hBx hK).2 rfl W.heap.size R.m.below.size far (heap_alloc_new _ _)
          · cases h
        · cases h
      · cases h
def chkG (md:Region.Mode) (ops:Array Oper) (C:Array Bool→Bool):List Nat→Array Bool→Bool
  | [],l=>C l
  |i :: r,l=>(Region.ready md ops l).contains i && Region.free md ops l i && chkG md ops C r (l.setIfInBounds i true)
theorem evQ_okG {ops : Array Oper} {w0 W : World} {β : Nat → Nat} {C : Array Bool → Bool} {Q : Exit → Act → World → Prop} {k : Nat} {md : Region.Mode} (hsel : Region.noSelect ops = true) (hQ : ∀ c (a : Act) (d : Option Tmp) (v : Value) (w : World), Q (.panic c) (a.put d v) w → Q (.panic c) a w) :
    ∀ (π : List Nat) (σ σ' : Sy), evQ E ops π σ = some σ' → σ'.c → σ.c ∧ σ'.mem = σ.mem ∧ ∀ {a : Act} {l : Array Bool}, Rl E.fk w0 W β σ a → chkG md ops C π l = true →
      (∀ a' l',Rl E.fk w0 W β σ' a'→C l'=true→wpAnyH P md ops Q (fun W=>Has W β σ.mem) k l' a' W)→wpAnyH P md ops Q (fun W=>Has W β σ.mem) (π.length+k) l a W
  | [], σ, σ', h, hc => by
    simp only[evQ,Option.some.injEq] at h
    subst h
    refine⟨hc,rfl,fun {a l} R hB hK=> ?_⟩
    have:=hK a l R hB
    simpa using this
  | i :: r, σ, σ', h, hc => by
    unfold evQ at h
    split at h
    · rename_i o ho
      split at h
      · rename_i hw
        split at h
        · cases h
        · rename_i hb
          split at h
          · rename_i σ1 hq
            obtain⟨h1,hm1,h2⟩:=evQ_okG (C:=C) (k:=k) (md:=md) (w0:=w0) (W:=W) (β:=β) hsel hQ r σ1 σ' h hc
            obtain⟨h3,v,h4,hm2,h5⟩:=quS_all (β:=β) hq h1
            refine⟨h3,hm1.trans hm2,fun {a l} R hB hK=> ?_⟩
            simp only[chkG,Bool.and_eq_true] at hB
            obtain⟨⟨hr,hf⟩,hB'⟩:=hB
            rw[show(i :: r).length+k=(r.length+k)+1 by simp;omega]
            refine wpAnyH_first ho (Region.noSelect_spec hsel) (fun c a w h=>hQ c a o.dst v w h) _ _ _ W (Region.free_spec ho hf) (by simpa using hr) (.inl ⟨by rw[yielded_eq R];exact hw,fun W2 hM=> ?_⟩) (R.m.has) ?_
            · have hv : Rv E.fk W2 β σ a := ⟨hM, R.t, R.v.gl⟩
              rcases h5 W2 a hv with h6|⟨h6,_⟩
              · exact h6
              · rw[h6] at hb;exact absurd rfl hb
            · rw [← hm2] at hK ⊢
              exact h2 (h4 w0 W a R) hB' hK
          · cases h
      · rename_i hw
        obtain⟨h1,hm1,h2⟩:=evQ_okG (C:=C) (k:=k) (md:=md) (w0:=w0) (W:=W) (β:=β) hsel hQ r (offS σ o) σ' h hc
        refine⟨h1,hm1,fun {a l} R hB hK=> ?_⟩
        simp only[chkG,Bool.and_eq_true] at hB
        obtain⟨⟨hr,hf⟩,hB'⟩:=hB
        rw[show(i :: r).length+k=(r.length+k)+1 by simp;omega]
        refine wpAnyH_first (v:=undef) ho (Region.noSelect_spec hsel) (fun c a w h=>hQ c a o.dst undef w h) _ _ _ W (Region.free_spec ho hf) (by simpa using hr) (.inr ⟨by rw[yielded_eq R];simpa using hw,rfl⟩) (R.m.has) ?_
        exact h2 (R.off o) hB' hK
    · cases h
def evX (E : En P) (x : Nat × Tmp) (π chain : List Nat) (tail : List (Nat × Bool)) (l : List Oper) (σ : Sy) : Option Sy :=
  if Region.noSelect l.toArray && π.length + ((chain.length + 1) + tail.length) == l.toArray.size && chkG .any l.toArray (chkC .any l.toArray x.1 tail (chain.length + 1) chain true) π (Array.replicate l.toArray.size false) && alOk E l x then
    (match evQ E l.toArray π σ with
    | some σ1 => (match evCh E l.toArray x.2 chain σ1 with
      |some σ2=>if Nat.blt (σ2.mem.length+1) big then evT E l.toArray σ.mem.length tail (newS σ2 (some x.2) (obOf E l x.2).1 (obOf E l x.2).2) else none
      |none=>none)
    |none=>none) else none
theorem evX_ok {id : Nat} {x : Nat × Tmp} {π chain : List Nat} {tail : List (Nat × Bool)} (hm : P.follows .mixedOrders = true) {l : List Oper} {σ σ' : Sy} (h : evX E x π chain tail l σ = some σ') (hc : σ'.c) : σ.c ∧ ∀ {Q : Exit → Act → World → Prop} {w0 W : World} {β : Nat → Nat} {a : Act}, Rl E.fk w0 W β σ a → (∀ W' β' a', Rl E.fk w0 W' β' σ' a' → Q .normal a' W') → (Code.region id l.toArray true).wp P Q a W := by
  unfold evX at h
  split at h
  · rename_i hB
    simp only[Bool.and_eq_true,beq_iff_eq] at hB
    obtain⟨⟨⟨h1,h2⟩,h3⟩,h4⟩:=hB
    split at h
    · rename_i σ1 hq
      split at h
      · rename_i σ2 hch
        split at h
        · rename_i hlt
          have hlt:σ2.mem.length+1<big:=by simpa using hlt
          have ht:σ2.c:=(evT_ok (w0:=default) (m:=σ.mem) (γ:=fun i=>i) tail _ _ h hc).1
          obtain ⟨ox, hox, hop, hdst, hg, hz⟩ : ∃ o, l.toArray[x.1]? = some o ∧ o.op = .alloc (obOf E l x.2).2 ∧ o.dst = some x.2 ∧ o.guard = none ∧ (P.info? (obOf E l x.2).2).bind (·.zero) = some (.agg (obOf E l x.2).1) := by
            unfold alOk at h4
            split at h4
            · rename_i o ho
              split at h4
              · rename_i t e1 e2
                simp only[Bool.and_eq_true,decide_eq_true_eq,bne_iff_ne,ne_eq] at h4
                obtain⟨⟨⟨q1,q2⟩,q3⟩,q4⟩:=h4
                exact⟨o,by simpa using ho,by rw[e1,q2],q1,e2,ob_z q4⟩
              · cases h4
            · cases h4
          have hσ1:σ1.c:=(chain_ok (w0:=default) (m:= []) (γ:=fun i=>i) (tail:=tail) (md:= .any) (Q:=fun _ _ _=>True) h1 (fun _ _ _ _ _ _=>trivial) hox hop hdst hg hz _ chain true σ1 σ2 rfl hch ht hlt (Nat.zero_le _) (fun i hi=>by simp at hi)).1
          have hσ:=evQ_okG (E:=E) (w0:=default) (W:=default) (β:=fun i=>i) (C:=fun _=>true) (Q:=fun _ _ _=>True) (k:=0) (md:= .any) h1 (fun _ _ _ _ _ _=>trivial) π σ σ1 hq hσ1
          refine⟨hσ.1,fun {Q w0 W β a} R hK=> ?_⟩
          have hm1:=hσ.2.1
          refine Code.wp_mono (Q:=fun e a' W'=>e= .normal∧∃ β',Rl E.fk w0 W' β' σ' a') (fun e a' W' ⟨he,β',R'⟩=>by subst he;exact hK W' β' a' R') ?_
          refine wp_region_any hm (wpAny_of_held (S:=fun W=>Has W β σ.mem) _ _ _ _ ?_)
          have hQ:∀ c (a:Act) (d:Option Tmp) (v:Value) (w:World),(fun(e:Exit) (a':Act) (W':World)=>e= .normal∧∃ β',Rl E.fk w0 W' β' σ' a') (.panic c) (a.put d v) w→(fun(e:Exit) (a':Act) (W':World)=>e= .normal∧∃ β',Rl E.fk w0 W' β' σ' a') (.panic c) a w:=fun c a d v w h=>by cases h.1
          have go:wpAnyH P .any l.toArray (fun(e:Exit) (a':Act) (W':World)=>e= .normal∧∃ β',Rl E.fk w0 W' β' σ' a') (fun W=>Has W β σ.mem) (π.length+((chain.length+1)+tail.length)) (Array.replicate l.toArray.size false) a W.drew:=by
            refine(evQ_okG (E:=E) (w0:=w0) (W:=W.drew) (β:=β) (C:=chkC .any l.toArray x.1 tail (chain.length+1) chain true) (k:=(chain.length+1)+tail.length) (md:= .any) h1 hQ π σ σ1 hq hσ1).2.2 ⟨R.m.drew,R.t,R.d,R.ok⟩ h3 (fun a1 l1 R1 hN=> ?_)
            refine((chain_ok (P:=P) (E:=E) (tail:=tail) (md:= .any) (w0:=w0) (m:=σ.mem) (γ:=β) h1 hQ hox hop hdst hg hz (chain.length+1) chain true σ1 σ2 rfl hch ht hlt (by rw[hm1];exact Nat.le_refl _) (fun i hi=>by rw[hm1])).2 (fun i hi=>rfl) R1 hN (fun W' β' a' hl2 hm2 hγ R'=> ?_)).1 rfl
            refine(evT_ok (m:=σ.mem) (γ:=β) tail _ _ h hc).2 ?_ (fun i hi=> ?_) hγ R' (fun W3 β3 a3 R3=>⟨rfl,β3,R3⟩)
            · simp only[newS,List.length_append,List.length_singleton];omega
            · rw[show(newS σ2 (some x.2) (obOf E l x.2).1 (obOf E l x.2).2).mem=σ2.mem ++ [((obOf E l x.2).1,(obOf E l x.2).2,(0,0))] from rfl,List.getElem?_append_left (by omega)];exact hm2 i hi
          rw[h2] at go
          exact go
        · cases h
      · cases h
    · cases h
  · cases h
end
end Go.Ev

set_option linter.unusedSimpArgs false
set_option linter.unusedVariables false
namespace Go.Ev
open Go.RowKit Go.Calm
section
variable {P:Program} {E:En P}
structure Hn where
  n:Nat
  π:List (Nat×Bool):= []
  tail:List (Nat×Bool):= []
  keep:List Nat:= []
  al:List (Nat×Tmp):= []
def evR (E:En P) (h:Hn) (l:List Oper) (σ:Sy):Option Sy:=if !h.al.isEmpty then(if h.keep.isEmpty then evP E h.al (h.π.map Prod.fst) h.tail l σ else evX E (h.al.headD (0,0)) (h.π.map Prod.fst) h.keep h.tail l σ) else if h.π.isEmpty && h.tail.isEmpty then evD E h.n l σ else if h.tail.isEmpty then evM E h.keep h.π l σ else evN E h.n h.π h.tail l σ
theorem evR_ok {id:Nat} {hn:Hn} (hm:P.follows .mixedOrders=true) {l:List Oper} {σ σ':Sy} (h:evR E hn l σ=some σ') (hc:σ'.c):σ.c∧∀ {Q:Exit→Act→World→Prop} {w0 W:World} {β:Nat→Nat} {a:Act},Rl E.fk w0 W β σ a→(∀ W' β' a',Rl E.fk w0 W' β' σ' a'→Q .normal a' W')→(Code.region id l.toArray true).wp P Q a W:=by
  unfold evR at h
  split at h
  · split at h
    · exact evP_ok hm h hc
    · exact evX_ok hm h hc
  · split at h
    · exact evD_ok hm h hc
    · split at h
      · exact evM_ok hm h hc
      · exact evN_ok hm h hc
def iterC (f:Sy→Option (Exit×Sy)):Nat→Sy→Option (Exit×Sy)
  |0,_=>none
  |n+1,σ=>(match f σ with|some (.normal,σ')=>iterC f n σ'|r=>r)
theorem iterC_ok {x:Code} {f:Sy→Option (Exit×Sy)} (hf:∀(σ σ':Sy) (e:Exit),f σ=some (e,σ')→σ'.c→σ.c∧∀ {Q:Exit→Act→World→Prop} {w0 W:World} {β:Nat→Nat} {a:Act},Rl E.fk w0 W β σ a→(∀ W' β' a',Rl E.fk w0 W' β' σ' a'→Q e a' W')→x.wp P Q a W):
    ∀(n:Nat) (σ σ':Sy) (e:Exit),iterC f n σ=some (e,σ')→σ'.c→σ.c∧∀ {Q:Exit→Act→World→Prop} {w0 W:World} {β:Nat→Nat} {a:Act},Rl E.fk w0 W β σ a→(∀ W' β' a',Rl E.fk w0 W' β' σ' a'→Q e a' W')→Code.rounds P x Q n a W
  |0,σ,σ',e,h,hc=>by cases h
  | n + 1, σ, σ', e, h, hc => by
    unfold iterC at h
    split at h
    · rename_i σ1 h1
      obtain⟨h2,h3⟩:=iterC_ok hf n σ1 σ' e h hc
      obtain⟨h4,h5⟩:=hf σ σ1 _ h1 h2
      refine⟨h4,fun {Q w0 W β a} R hK=> ?_⟩
      rw[rounds_succ]
      exact h5 R (fun W' β' a' R'=>h3 R' hK)
    · rename_i hne
      obtain⟨h4,h5⟩:=hf σ σ' e h hc
      refine⟨h4,fun {Q w0 W β a} R hK=> ?_⟩
      rw[rounds_succ]
      refine h5 R (fun W' β' a' R'=> ?_)
      have:=hK W' β' a' R'
      cases e with
      |normal=>exact absurd h (hne _)
      |_=>exact this
def evC (E:En P) (N:Nat→Hn):Code→Sy→Option (Exit×Sy)
  | .skip,σ=>some (.normal,σ)
  | .ret,σ=>some (.ret,σ)
  | .exit i,σ=>some (.exit i,σ)
  | .region i ops false,σ=>(match evL E ops ops.toList σ with|some σ'=>some (.normal,σ')|none=>none)
  | .region i ops true,σ=>(match evR E (N i) ops.toList σ with|some σ'=>some (.normal,σ')|none=>none)
  | .seq x y,σ=>(match evC E N x σ with|some (.normal,σ')=>evC E N y σ'|r=>r)
  | .cond c x y,σ=>if opk c then(match opn σ.tm c with| .bool true=>evC E N x σ| .bool false=>evC E N y σ|_=>none) else none
  | .block i x,σ=>(match evC E N x σ with|some (.exit j,σ')=>if j=i then some (.normal,σ') else some (.exit j,σ')|r=>r)
  | .loop x,σ=>iterC (evC E N x) 400 σ
  |_,_=>none
theorem evC_ok (hm : P.follows .mixedOrders = true) {N : Nat → Hn} : ∀ (x : Code) (σ σ' : Sy) (e : Exit), evC E N x σ = some (e, σ') → σ'.c → σ.c ∧ ∀ {Q : Exit → Act → World → Prop} {w0 W : World} {β : Nat → Nat} {a : Act}, Rl E.fk w0 W β σ a → (∀ W' β' a', Rl E.fk w0 W' β' σ' a' → Q e a' W') → x.wp P Q a W
  | .skip, σ, σ', e, h, hc => by
    simp only[evC,Option.some.injEq,Prod.mk.injEq] at h
    obtain⟨rfl,rfl⟩:=h
    exact⟨hc,fun R hK=>wp_skip (hK _ _ _ R)⟩
  | .ret, σ, σ', e, h, hc => by
    simp only[evC,Option.some.injEq,Prod.mk.injEq] at h
    obtain⟨rfl,rfl⟩:=h
    exact⟨hc,fun R hK=>wp_ret (hK _ _ _ R)⟩
  | .exit i, σ, σ', e, h, hc => by
    simp only[evC,Option.some.injEq,Prod.mk.injEq] at h
    obtain⟨rfl,rfl⟩:=h
    exact⟨hc,fun R hK=>wp_exit (hK _ _ _ R)⟩
  | .region i ops false, σ, σ', e, h, hc => by
    unfold evC at h
    split at h
    · rename_i σ1 h1
      simp only[Option.some.injEq,Prod.mk.injEq] at h
      obtain⟨rfl,rfl⟩:=h
      obtain⟨h2,h3⟩:=evL_ok _ _ _ h1 hc
      exact⟨h2,fun R hK=>wp_region_list (h3 R hK)⟩
    · cases h
  | .region i ops true, σ, σ', e, h, hc => by
    unfold evC at h
    split at h
    · rename_i σ1 h1
      simp only[Option.some.injEq,Prod.mk.injEq] at h
      obtain⟨rfl,rfl⟩:=h
      obtain⟨h2,h3⟩:=evR_ok (id:=i) hm h1 hc
      exact⟨h2,fun R hK=>h3 R hK⟩
    · cases h
  | .seq x y, σ, σ', e, h, hc => by
    unfold evC at h
    split at h
    · rename_i σ1 h1
      obtain⟨h2,h3⟩:=evC_ok hm y σ1 σ' e h hc
      obtain⟨h4,h5⟩:=evC_ok hm x σ σ1 _ h1 h2
      exact⟨h4,fun R hK=>wp_seq (h5 R (fun W' β' a' R'=>h3 R' hK))⟩
    · rename_i hne
      obtain⟨h4,h5⟩:=evC_ok hm x σ σ' e h hc
      refine⟨h4,fun R hK=>wp_seq (h5 R (fun W' β' a' R'=> ?_))⟩
      have:=hK W' β' a' R'
      cases e with
      |normal=>exact absurd h (hne _)
      |_=>exact this
  | .cond k x y, σ, σ', e, h, hc => by
    unfold evC at h
    split at h
    · rename_i hk
      split at h
      · rename_i hv
        obtain⟨h4,h5⟩:=evC_ok hm x σ σ' e h hc
        refine⟨h4,fun R hK=>wp_cond_true ?_ (h5 R hK)⟩
        rw[R.evn hk (by rw[hv];rfl),hv]
      · rename_i hv
        obtain⟨h4,h5⟩:=evC_ok hm y σ σ' e h hc
        refine⟨h4,fun R hK=>wp_cond_false ?_ (h5 R hK)⟩
        rw[R.evn hk (by rw[hv];rfl),hv]
      · cases h
    · cases h
  | .block i x, σ, σ', e, h, hc => by
    unfold evC at h
    split at h
    · rename_i j σ1 h1
      split at h
      · rename_i hj
        simp only[Option.some.injEq,Prod.mk.injEq] at h
        obtain⟨rfl,rfl⟩:=h
        obtain⟨h4,h5⟩:=evC_ok hm x σ σ1 _ h1 hc
        refine⟨h4,fun R hK=>wp_block (h5 R (fun W' β' a' R'=> ?_))⟩
        subst hj
        simp only[Exit.inBlock,if_true]
        exact hK W' β' a' R'
      · rename_i hj
        simp only[Option.some.injEq,Prod.mk.injEq] at h
        obtain⟨rfl,rfl⟩:=h
        obtain⟨h4,h5⟩:=evC_ok hm x σ σ1 _ h1 hc
        refine⟨h4,fun R hK=>wp_block (h5 R (fun W' β' a' R'=> ?_))⟩
        simp only[Exit.inBlock,if_neg hj]
        exact hK W' β' a' R'
    · rename_i hne
      obtain⟨h4,h5⟩:=evC_ok hm x σ σ' e h hc
      refine⟨h4,fun R hK=>wp_block (h5 R (fun W' β' a' R'=> ?_))⟩
      have:=hK W' β' a' R'
      cases e with
      |exit j=>exact absurd h (hne _ _)
      |_=>exact this
  | .loop x, σ, σ', e, h, hc => by
    unfold evC at h
    obtain⟨h1,h2⟩:=iterC_ok (evC_ok hm x) 400 σ σ' e h hc
    exact⟨h1,fun R hK=>wp_loop_rounds 400 (h2 R hK)⟩
  | .rangeFunc .., σ,σ',e,h,hc=>by cases h
  | .scope x,σ,σ',e,h,hc=>by cases h
  | .label x,σ,σ',e,h,hc=>by cases h
  | .goto x,σ,σ',e,h,hc=>by cases h
  | .refuse x,σ,σ',e,h,hc=>by cases h
def resS (E : En P) (σ : Sy) : List ResultVar → Option (List Value)
  | []=>some []
  | .tmp t :: r=>if np (σ.tm.getD t undef) then(match resS E σ r with|some l=>some (σ.tm.getD t undef :: l)|none=>none) else none
  | .cell p t :: r => (match σ.tm.getD p undef with
    | .pointer (some ⟨i, 0, none⟩) => (match σ.mem[i]?, E.A t with
      |some (cs,_),some k=>if k=cs.size then(match resS E σ r with|some l=>some (.agg cs :: l)|none=>none) else none
      |some (cs,_),none=>if E.O t then(match cs[0]? with|some v=>(match resS E σ r with|some l=>some (v :: l)|none=>none)|none=>none) else none
      |_,_=>none)
    |_=>none)
def one:List Value→Value
  | [v]=>v
  |l=> .tuple l.toArray
def resOf (tmps:Array Value):ResultVar→Sem Value
  | .tmp t=>pure (tmps.getD t undef)
  | .cell a t=>do loadVar t (← asAddr (tmps.getD a undef))
theorem results_eq {fn:Func} {tmps:Array Value} {w:World} {vs:List Value} (h:(fn.results.toList.mapM (resOf tmps)).run P w= .ok vs w):(results fn tmps).run P w= .ok (one vs) w:=by
  have e:(results fn tmps)=(do let vs ← fn.results.mapM (resOf tmps);pure (if h:vs.size=1 then vs[0] else .tuple vs)):=by
    unfold results
    congr 1
  have e2:fn.results.mapM (resOf tmps)=Functor.map List.toArray (fn.results.toList.mapM (resOf tmps)):=by
    rw[Array.mapM_eq_mapM_toList]
  rw[e,e2]
  simp only[Sem.run_bind,map_eq_pure_bind,h,Result.andThen_ok,Sem.run_pure]
  congr 1
  match vs,h with
  | [],_=>rfl
  | [v],_=>rfl
  |v :: u :: r,_=>simp[one]
theorem resS_ok {fk : Nat} {w0 W : World} {β : Nat → Nat} {σ : Sy} {a : Act} (R : Rl fk w0 W β σ a) : ∀ (l : List ResultVar) (vs : List Value), resS E σ l = some vs → (l.mapM (resOf a.tmps)).run P W = .ok vs W
  | [], vs, h => by
    simp only[resS,Option.some.injEq] at h
    subst h
    simp
  | .tmp t :: r, vs, h => by
    simp only[resS] at h
    split at h
    · rename_i hn
      split at h
      · rename_i l hl
        simp only[Option.some.injEq] at h
        subst h
        have hx:a.tmps.getD t undef=σ.tm.getD t undef:=R.evn (x:= .tmp t) rfl hn
        simp[resOf,hx,resS_ok R r l hl]
      · cases h
    · cases h
  | .cell p t :: r, vs, h => by
    simp only[resS] at h
    split at h
    · rename_i i e
      have hx:a.tmps.getD p undef=_:=R.ev (x:= .tmp p) rfl
      simp only[opn,e,rn] at hx
      split at h
      · rename_i cs tt k hm hA
        split at h
        · rename_i hk
          split at h
          · rename_i l hl
            simp only[Option.some.injEq] at h
            subst h
            simp[-Array.getD_eq_getD_getElem?,resOf,hx,asAddr,(E.hA t k hA).load W _ tt.1 cs (R.m.has i _ hm) hk,resS_ok R r l hl]
          · cases h
        · cases h
      · rename_i cs tt hm hA
        split at h
        · rename_i hO
          split at h
          · rename_i v hv
            split at h
            · rename_i l hl
              simp only[Option.some.injEq] at h
              subst h
              obtain⟨d,hd1,hd2⟩:=(E.hO t hO).one
              simp[-Array.getD_eq_getD_getElem?,resOf,hx,asAddr,run_loadVar_one W _ 0 tt.1 t cs d v (R.m.has i _ hm) hv hd1 hd2,resS_ok R r l hl]
            · cases h
          · cases h
        · cases h
      · cases h
    · cases h
def evG (E : En P) (N : Nat → Hn) (fn : Func) (mem : List Mb) (args : List Value) (ch : List (Option Value)) : Option (Value × Prop) :=
  match fn.body with
  | some c => (match evC E N c ⟨args ++ List.replicate (fn.ntmps - args.length) undef, mem, True, ch⟩ with
    |some (.ret,σ)=>(match resS E σ fn.results.toList with|some vs=>some (one vs,σ.c)|none=>none)
    |_=>none)
  |none=>none
theorem start {fk ntm:Nat} {mem:List Mb} (hkb:mem.length=fk%big) {args:List Value} (hn:∀ v ∈ args,okp mem.length v=true) {w:World} {β:Nat→Nat} (h:Has w β mem) (hg:∀ i,i<fk / big→i<mem.length∧β i=i) {q:Prop} {ch:List (Option Value)} {a:Act} (ht:a.tmps=(args.map (rn β)).toArray ++ Array.replicate (ntm - args.length) undef) (hd:a.defers= []):Rl fk w w β ⟨args ++ List.replicate (ntm - args.length) undef,mem,q,ch⟩ a:=by
  have hk:=hkb
  have hb:fk%big<big:=Nat.mod_lt _ (by decide)
  refine⟨⟨Below.refl _ _,fun i h1 h2=>absurd (hk ▸ h2) (by omega),fun i j h1 h2=>absurd (hk ▸ h2) (by omega),h,by rw[hk];exact hb,hg⟩,?_,hd,fun u hu=> ?_⟩
  · rw [ht]
    have e2:rn β undef=undef:=rfl
    simp only[List.map_append,List.map_replicate,e2]
    apply Array.ext'
    simp
  · rcases List.mem_append.1 hu with hu | hu
    · exact hn u hu
    · rw[(List.mem_replicate.1 hu).2];rfl
theorem evG_ok (hm : P.follows .mixedOrders = true) {N : Nat → Hn} {f : FuncId} {fn : Func} (hf : P.funcs[f]? = some fn) {mem : List Mb} (hkb : mem.length = E.fk % big) {args : List Value} {ch : List (Option Value)} {v : Value} {c : Prop} (h : evG E N fn mem args ch = some (v, c)) (hc : c) (hn : ∀ v ∈ args, okp mem.length v = true) (w : World) (β : Nat → Nat) (hw : Has w β mem) (hg : ∀ i, i < E.fk / big → i < mem.length ∧ β i = i) : Calls P f (args.map (rn β)).toArray w (fun e w' => e = .returned v ∧ Below w.heap.size w w') := by
  unfold evG at h
  split at h
  · rename_i x hb
    split at h
    · rename_i σ h1
      split at h
      · rename_i vs hv
        simp only[Option.some.injEq,Prod.mk.injEq] at h
        obtain⟨rfl,rfl⟩:=h
        exact calls_of_wp hf hb ((evC_ok hm x _ _ _ h1 hc).2 (w0:=w) (β:=β) (start hkb hn hw hg (by simp) rfl) (fun W' β' a' R'=>⟨R'.d,one vs,results_eq (resS_ok R' _ _ hv),rfl,R'.m.below⟩))
      · cases h
    · cases h
  · cases h
def evF (E:En P) (N:Nat→Hn) (fn:Func) (args:List Value) (ch:List (Option Value)):Option (Value×Prop):=evG E N fn [] args ch
theorem evF_ok (hk:E.fk=0) (hm:P.follows .mixedOrders=true) {N:Nat→Hn} {f:FuncId} {fn:Func} (hf:P.funcs[f]? =some fn) {args:List Value} {ch:List (Option Value)} {v:Value} {c:Prop} (h:evF E N fn args ch=some (v,c)) (hc:c) (hn:∀ v ∈ args,np v=true) (w:World):Calls P f args.toArray w (fun e w'=>e= .returned v∧Below w.heap.size w w'):=by
  have:=evG_ok hm hf (mem:= []) (by rw[hk];rfl) h hc (fun v hv=>okp_np (hn v hv)) w (fun i=>i) (fun i x hx=>by simp at hx) (fun i h=>by rw[hk] at h;simp at h)
  have e1:args.map (rn fun i=>i)=args:=by
    have:args.map (rn fun i=>i)=args.map id:=List.map_congr_left (fun u hu=>rn_np (hn u hu))
    rw[this,List.map_id]
  rw[e1] at this
  exact this
end
end Go.Ev

set_option linter.unusedSimpArgs false
set_option linter.unusedVariables false
namespace Go.Ev
open Go.RowKit Go.Calm
structure Entry (P:Program) where
  f:FuncId
  ng:Nat:=0
  g:List Mb→List Value→Option (Value×Prop)
  ok:∀ mem as v c,g mem as=some (v,c)→c→∀ w β,Has w β mem→(∀ i,i<ng→β i=i)→Calls P f (as.map (rn β)).toArray w (fun e w'=>e= .returned v∧Below w.heap.size w w')
  call:∀ args (w:World),(callFunc f args).run P w= .ok (.enter f args) w
structure Maker (P:Program) where
  f:FuncId
  ng:Nat:=0
  g:List Mb→List Value→Option (Array Value×TypeId×Nat×Nat×Prop)
  ok:∀ mem as cs t n k c,g mem as=some (cs,t,n,k,c)→c→∀ w β,Has w β mem→(∀ i,i<ng→β i=i)→Calls P f (as.map (rn β)).toArray w (fun e w'=>∃ b,e= .returned (.slice (some ⟨b,0,none⟩) n k)∧w.heap.size≤b∧w'.heap[b]? =some (.cells cs t (0,0))∧Below w.heap.size w w')
  call:∀ args (w:World),(callFunc f args).run P w= .ok (.enter f args) w
structure Ty (P:Program) where
  A:TypeId→Option Nat
  hA:∀ t k,A t=some k→AggT P t k
  O:TypeId→Bool
  hO:∀ t,O t=true→OneT P t
  F:TypeId→Nat→Option Nat
  hF:∀ t f off,F t f=some off→∀ b o (w:World),(Instr.fieldAt t (.pointer (some ⟨b,o,none⟩)) f).run P w= .ok (.pointer (some ⟨b,o+off,none⟩)) w
  Z:TypeId→Option (Array Value)
  hZ:∀ t cs,Z t=some cs→(P.info? t).bind (·.zero)=some (.agg cs)
  I:TypeId→Option (Nat×Nat)
  hI:∀ t n k,I t=some (n,k)→∀ b o (q:IntKind) (j:Int) (w:World),0≤j→j<n→(Instr.indexAt t (.pointer (some ⟨b,o,none⟩)) (.int q j)).run P w= .ok (.pointer (some ⟨b,o+j.toNat*k,none⟩)) w
  IS:TypeId→Option Nat
  hIS:∀ t k,IS t=some k→∀ b o len cap (q:IntKind) (j:Int) (w:World),0≤j→j<(len:Nat)→(Instr.indexAt t (.slice (some ⟨b,o,none⟩) len cap) (.int q j)).run P w= .ok (.pointer (some ⟨b,o+j.toNat*k,none⟩)) w
  hIU:∀ t k,IS t=some k→∃ e,P.underlying t=some (.slice e)
  S:TypeId→Option (Nat×Nat)
  hS:∀ t n k,S t=some (n,k)→∀ b o (lo hi:Option Value) (l h:Nat) (w:World),bnd lo 0=some l→bnd hi n=some h→l≤h→h≤n→l<n→(Instr.sliceAt t (.pointer (some ⟨b,o,none⟩)) lo hi none).run P w= .ok (.slice (some ⟨b,o+l*k,none⟩) (h - l) (n - l)) w
  hSL:∀ t k,IS t=some k→∀(a:Option Addr) (len cap:Nat) (lo hi:Option Value) (l h:Nat) (w:World),bnd lo 0=some l→bnd hi len=some h→l≤h→h≤cap→(Instr.sliceAt t (.slice a len cap) lo hi none).run P w= .ok (.slice (if cap=l then a else a.map (·.add (l*k))) (h - l) (cap - l)) w
  CP:TypeId→Bool
  hCP:∀ t,CP t=true→∃ e,P.underlying t=some (.slice e)∧(P.info? e).map (·.size)=some 1
  CV:TypeId→TypeId→Bool
  hCV:∀ s d,CV s d=true→∃ e,P.underlying s=some (.slice e)∧P.underlying e=some (.int .u8)∧P.underlying d=some .string
  CI:TypeId→TypeId→Bool
  hCI:∀ s d,CI s d=true→s=d∧∃ e,P.underlying s=some (.slice e)∧P.underlying e=some (.int .u8)
  BS:TypeId→Nat→List (Nat×Value)→Option (TypeId×Array Value)
  hBS:∀ t len (ps:Array (Nat×Value)) e cs,BS t len ps.toList=some (e,cs)→∀ w:World,(Instr.buildSlice t len ps).run P w= .ok (.slice (some ⟨w.heap.size,0,none⟩) len len) (w.alloc (.cells cs e))
  MK:TypeId→Option (TypeId×Array Value×Nat×Nat)
  hMK:∀ t e z k b,MK t=some (e,z,k,b)→∀(kl kc:IntKind) (n m:Nat) (w:World),n≤m→b*m≤281474976710656→m≤9223372036854775807→(Instr.makeSlice t (.int kl n) (.int kc m)).run P w= .ok (.slice (some ⟨w.heap.size,0,none⟩) n m) (w.alloc (.cells (madeCells z (m*k)) e))
  U:Op→(Operand→Value)→Option (Value×Prop)
  hU:∀(o:Oper) ρ ρ' v c,U o.op ρ=some (v,c)→c→(∀ x,opk x=true→np (ρ x)=true→ρ' x=ρ x)→∀ w:World,(execOp ρ' o).run P w= .ok (.value v) w
def look {P:Program} (n:Nat) (tab:List (Entry P)) (f:FuncId) (mem:List Mb) (as:List Value):Option (Value×Prop):=
  match tab with
  | []=>none
  |e :: r=>if e.f=f then(if e.ng≤n then e.g mem as else none) else look n r f mem as
theorem look_ok {P : Program} {n : Nat} : ∀ (tab : List (Entry P)) (f : FuncId) (mem : List Mb) (as : List Value) (v : Value) (c : Prop), look n tab f mem as = some (v, c) → ∃ e : Entry P, e.f = f ∧ e.ng ≤ n ∧ e.g mem as = some (v, c)
  | [],f,mem,as,v,c,h=>by cases h
  | e :: r, f, mem, as, v, c, h => by
    unfold look at h
    split at h
    · rename_i hf
      split at h
      · rename_i hg
        exact⟨e,hf,hg,h⟩
      · cases h
    · exact look_ok r f mem as v c h
def lookM {P:Program} (n:Nat) (tab:List (Maker P)) (f:FuncId) (mem:List Mb) (as:List Value):Option (Array Value×TypeId×Nat×Nat×Prop):=
  match tab with
  | []=>none
  |e :: r=>if e.f=f then(if e.ng≤n then e.g mem as else none) else lookM n r f mem as
theorem lookM_ok {P : Program} {n : Nat} : ∀ (tab : List (Maker P)) (f : FuncId) (mem : List Mb) (as : List Value) (v : Array Value × TypeId × Nat × Nat × Prop), lookM n tab f mem as = some v → ∃ e : Maker P, e.f = f ∧ e.ng ≤ n ∧ e.g mem as = some v
  | [],f,mem,as,v,h=>by cases h
  | e :: r, f, mem, as, v, h => by
    unfold lookM at h
    split at h
    · rename_i hf
      split at h
      · rename_i hg
        exact⟨e,hf,hg,h⟩
      · cases h
    · exact lookM_ok r f mem as v h
def Ty.enm {P : Program} (Y : Ty P) (tab : List (Entry P)) (mk : List (Maker P)) (n : Nat) : En P where
  fk:=n
  A:=Y.A
  hA:=Y.hA
  O:=Y.O
  hO:=Y.hO
  F:=Y.F
  hF:=Y.hF
  Z:=Y.Z
  hZ:=Y.hZ
  T:=look (n / big) tab
  hT := fun f mem as v c h hc w β hw hg => by
    obtain⟨e,rfl,hn,h'⟩:=look_ok tab f mem as v c h
    exact e.ok mem as v c h' hc w β hw (fun i hi=>hg i (by omega))
  hC := fun f mem as v c h => by
    obtain⟨e,rfl,_,h⟩:=look_ok tab f mem as v c h
    exact e.call
  M:=lookM (n / big) mk
  hM := fun f mem as cs t m k c h hc w β hw hg => by
    obtain⟨e,rfl,hn,h'⟩:=lookM_ok mk f mem as _ h
    exact e.ok mem as cs t m k c h' hc w β hw (fun i hi=>hg i (by omega))
  hMC:=fun f mem as r h=>by
    obtain⟨e,rfl,_,h⟩:=lookM_ok mk f mem as r h
    exact e.call
  I:=Y.I
  hI:=Y.hI
  IS:=Y.IS
  hIS:=Y.hIS
  hIU:=Y.hIU
  S:=Y.S
  hS:=Y.hS
  hSL:=Y.hSL
  CP:=Y.CP
  hCP:=Y.hCP
  CV:=Y.CV
  hCV:=Y.hCV
  CI:=Y.CI
  hCI:=Y.hCI
  BS:=Y.BS
  hBS:=Y.hBS
  MK:=Y.MK
  hMK:=Y.hMK
  U:=Y.U
  hU:=Y.hU
def Ty.enf {P:Program} (Y:Ty P) (tab:List (Entry P)) (n:Nat):En P:=Y.enm tab [] n
def Ty.en {P:Program} (Y:Ty P) (tab:List (Entry P)):En P:=Y.enf tab 0
theorem call_of {P:Program} {f:FuncId} {fn:Func} (hf:P.funcs[f]? =some fn) (hn:(fn.name == "runtime.NumGoroutine")=false) (hb:fn.body.isNone=false) (args:Array Value) (w:World):(callFunc f args).run P w= .ok (.enter f args) w:=by
  unfold callFunc
  have h1:fn.name≠ "runtime.NumGoroutine" :=by simpa using hn
  have h2:fn.body≠none:=by intro e;rw[e] at hb;cases hb
  simp[hf,h1,h2]
structure Cd where
  α:Type
  enc:α→Array Value
  dec:Array Value→α
  ok:α→Prop
  h:∀ x,ok x→dec (enc x)=x
def Cd.is (c:Cd) (a:Array Value):Prop:=∃ x,c.ok x∧a=c.enc x
section
variable {P:Program} {f:FuncId} {fn:Func} (hf:P.funcs[f]? =some fn) (hn:(fn.name == "runtime.NumGoroutine")=false) (hb:fn.body.isNone=false)
def Pure (P:Program) (f:FuncId) (args:Array Value) (v:Value):Prop:=∀ w,Calls P f args w (fun e w'=>e= .returned v∧Below w.heap.size w w')
def ent0 (v : Value) (h : Pure P f #[] v) : Entry P where
  f:=f
  g:=fun _ as=>match as with| []=>some (v,True)|_=>none
  ok := fun _ as u c e _ w β _ _ => by
    split at e
    · simp only [Option.some.injEq, Prod.mk.injEq] at e
      rw[← e.1];exact h w
    · cases e
  call:=call_of hf hn hb
def entN (F : Int → Value) (C : Int → Prop) {k : IntKind} (h : ∀ n, C n → Pure P f #[.int k n] (F n)) : Entry P where
  f:=f
  g:=fun _ as=>match as with| [.int j n]=>some (F n,j=k∧C n)|_=>none
  ok := fun _ as u c e hc w β _ _ => by
    split at e
    · simp only [Option.some.injEq, Prod.mk.injEq] at e
      obtain⟨rfl,rfl⟩:=e
      obtain⟨rfl,hc⟩:=hc
      exact h _ hc w
    · cases e
  call:=call_of hf hn hb
end
def Reads (P:Program) (f:FuncId) (mem:List Mb) (args:List Value) (v:Value) (ng:Nat:=0):Prop:=∀ w β,Has w β mem→(∀ i,i<ng→β i=i)→Calls P f (args.map (rn β)).toArray w (fun e w'=>e= .returned v∧Below w.heap.size w w')
def Makes (P:Program) (f:FuncId) (mem:List Mb) (args:List Value) (cs:Array Value) (t:TypeId) (n k:Nat) (ng:Nat:=0):Prop:=∀ w β,Has w β mem→(∀ i,i<ng→β i=i)→Calls P f (args.map (rn β)).toArray w (fun e w'=>∃ b,e= .returned (.slice (some ⟨b,0,none⟩) n k)∧w.heap.size≤b∧w'.heap[b]? =some (.cells cs t (0,0))∧Below w.heap.size w w')
theorem pure_of {P:Program} {Y:Ty P} {tab:List (Entry P)} (hm:P.follows .mixedOrders=true) {N:Nat→Hn} {f:FuncId} {fn:Func} (hf:P.funcs[f]? =some fn) {args:List Value} (ch:List (Option Value)) {v:Value} {c:Prop} (h:evF (Y.en tab) N fn args ch=some (v,c)) (hn:args.all np=true) (hc:c):Pure P f args.toArray v:=
  fun w=>evF_ok rfl hm hf h hc (List.all_eq_true.1 hn) w
theorem reads_of {P:Program} {Y:Ty P} {tab:List (Entry P)} {n:Nat} (hm:P.follows .mixedOrders=true) {N:Nat→Hn} {f:FuncId} {fn:Func} (hf:P.funcs[f]? =some fn) {mem:List Mb} (hk:mem.length=n%big∧n / big≤n%big) {args:List Value} (ch:List (Option Value)) {v:Value} {c:Prop} (h:evG (Y.enf tab n) N fn mem args ch=some (v,c)) (hn:args.all (okp (n%big))=true) (hc:c):Reads P f mem args v (n / big):=
  fun w β hw hg=>evG_ok hm hf hk.1 h hc (by rw[hk.1];exact List.all_eq_true.1 hn) w β hw (fun i hi=>⟨by rw[hk.1];exact Nat.lt_of_lt_of_le hi hk.2,hg i hi⟩)
end Go.Ev

set_option linter.unusedSimpArgs false
set_option linter.unusedVariables false
/-! Pieces of code one behind the other, loops by an invariant. -/
namespace Go.Ev
open Go.RowKit Go.Calm
section
variable {P:Program} {E:En P} {fk:Nat}
def Runs (P:Program) (c:Code) (σ:Sy) (K:Exit→Sy→Prop) (fk:Nat:=0):Prop:=∀(Q:Exit→Act→World→Prop) (w0 W:World) (β:Nat→Nat) (a:Act),Rl fk w0 W β σ a→(∀ e σ' W' β' a',K e σ'→Rl fk w0 W' β' σ' a'→Q e a' W')→c.wp P Q a W
theorem Rl.re {w0 W:World} {β:Nat→Nat} {σ:Sy} {a:Act} (R:Rl fk w0 W β σ a) (c:Prop) (ch:List (Option Value)):Rl fk w0 W β ⟨σ.tm,σ.mem,c,ch⟩ a:=⟨R.m,R.t,R.d,R.ok⟩
theorem runs_ev (hm:P.follows .mixedOrders=true) {N:Nat→Hn} {c:Code} {tm:List Value} {mem:List Mb} (ch:List (Option Value)) {e:Exit} {σ':Sy} (h:evC E N c ⟨tm,mem,True,ch⟩=some (e,σ')) (hc:σ'.c) {c0:Prop} {ch0:List (Option Value)}:Runs P c ⟨tm,mem,c0,ch0⟩ (fun e' s=>e'=e∧s=σ') E.fk:=
  fun Q w0 W β a R hK=>(evC_ok hm c _ _ _ h hc).2 (R.re True ch) (fun W' β' a' R'=>hK _ _ W' β' a' ⟨rfl,rfl⟩ R')
theorem Runs.mono {c:Code} {σ:Sy} {K K':Exit→Sy→Prop} (h:Runs P c σ K fk) (hK:∀ e s,K e s→K' e s):Runs P c σ K' fk:=fun Q w0 W β a R h2=>h Q w0 W β a R (fun e s W' β' a' k R'=>h2 e s W' β' a' (hK e s k) R')
theorem runs_seq {x y:Code} {σ:Sy} {K1 K:Exit→Sy→Prop} (h1:Runs P x σ K1 fk) (h2:∀ s,K1 .normal s→Runs P y s K fk) (h3:∀ e s,e≠ .normal→K1 e s→K e s):Runs P (.seq x y) σ K fk:=fun Q w0 W β a R hK=>
  wp_seq (h1 _ w0 W β a R (fun e s W' β' a' k R'=>by
    cases e with
    |normal=>exact h2 s k Q w0 W' β' a' R' hK
    |_=>exact hK _ s W' β' a' (h3 _ s (by simp) k) R'))
theorem runs_block {k:Nat} {x:Code} {σ:Sy} {K1 K:Exit→Sy→Prop} (h1:Runs P x σ K1 fk) (h2:∀ e s,K1 e s→(e= .exit k∧K .normal s)∨(e= .normal∧K .normal s)∨(e= .ret∧K .ret s)):Runs P (.block k x) σ K fk:=fun Q w0 W β a R hK=>
  wp_block (h1 _ w0 W β a R (fun e s W' β' a' q R'=>by
    rcases h2 e s q with⟨rfl,h⟩|⟨rfl,h⟩|⟨rfl,h⟩
    · simp only[Exit.inBlock,if_true];exact hK _ s W' β' a' h R'
    · exact hK _ s W' β' a' h R'
    · exact hK _ s W' β' a' h R'))
theorem runs_loop {x:Code} {σ:Sy} {K:Exit→Sy→Prop} (I:Nat→Sy→Prop) (n0:Nat) (h0:I n0 σ) (h:∀ n s,I n s→Runs P x s (fun e s'=>(e= .normal∧∃ m,m<n∧I m s')∨(e≠ .normal∧K e s')) fk):Runs P (.loop x) σ K fk:=fun Q w0 W β a R hK=>
  wp_loop_ghost (fun n a w=>∃ s β,I n s∧Rl fk w0 w β s a) n0 ⟨σ,β,h0,R⟩ (fun n a w ⟨s,β,hI,R⟩=>h n s hI _ w0 w β a R (fun e s' W' β' a' q R'=>by
    rcases q with⟨rfl,m,hm,hI'⟩|⟨hne,hk⟩
    · exact⟨m,hm,s',β',hI',R'⟩
    · have := hK e s' W' β' a' hk R'
      cases e with
      |normal=>exact absurd rfl hne
      |_=>exact this))
theorem reads_runs (E:En P) {f:FuncId} {fn:Func} (hf:P.funcs[f]? =some fn) {c:Code} (hb:fn.body=some c) {mem:List Mb} (hk:mem.length=fk%big∧fk / big≤fk%big) {args:List Value} (hn:args.all (okp (fk%big))=true) {v:Value} {K:Exit→Sy→Prop} (h:Runs P c ⟨args ++ List.replicate (fn.ntmps - args.length) undef,mem,True,[]⟩ K fk) (hr:∀ e s,K e s→e= .ret∧∃ vs,resS E s fn.results.toList=some vs∧one vs=v):Reads P f mem args v (fk / big):=fun w β hw hg=>by
  refine calls_of_wp hf hb (h _ w w β _ (start hk.1 (by rw[hk.1];exact List.all_eq_true.1 hn) hw (fun i hi=>⟨by rw[hk.1];exact Nat.lt_of_lt_of_le hi hk.2,hg i hi⟩) (by simp) rfl) (fun e s W' β' a' k R'=> ?_))
  obtain⟨rfl,vs,h1,h2⟩:=hr e s k
  rw[← h2]
  exact⟨R'.d,one vs,results_eq (resS_ok R' _ _ h1),rfl,R'.m.below⟩
theorem makes_runs {f:FuncId} {fn:Func} (hf:P.funcs[f]? =some fn) {c:Code} (hb:fn.body=some c) {mem:List Mb} (hk:mem.length=fk%big∧fk / big≤fk%big) {args:List Value} (hn:args.all (okp (fk%big))=true) {cs:Array Value} {t:TypeId} {n k r:Nat} (hres:fn.results.toList= [.tmp r]) {K:Exit→Sy→Prop} (h:Runs P c ⟨args ++ List.replicate (fn.ntmps - args.length) undef,mem,True,[]⟩ K fk) (hr:∀ e s,K e s→e= .ret∧∃ i,fk%big≤i∧s.tm.getD r undef= .slice (some ⟨i,0,none⟩) n k∧s.mem[i]? =some (cs,t,(0,0))):Makes P f mem args cs t n k (fk / big):=fun w β hw hg=>by
  refine calls_of_wp hf hb (h _ w w β _ (start hk.1 (by rw[hk.1];exact List.all_eq_true.1 hn) hw (fun i hi=>⟨by rw[hk.1];exact Nat.lt_of_lt_of_le hi hk.2,hg i hi⟩) (by simp) rfl) (fun e s W' β' a' q R'=> ?_))
  obtain⟨rfl,i,hi,hs,hm⟩:=hr e s q
  have hx:a'.tmps.getD r undef=_:=R'.ev (x:= .tmp r) rfl
  simp only[opn,hs,rn] at hx
  exact⟨R'.d,one [.slice (some ⟨β' i,0,none⟩) n k],results_eq (by rw[hres];simp[-Array.getD_eq_getD_getElem?,resOf,hx]),β' i,rfl,R'.m.own i hi (List.getElem?_eq_some_iff.1 hm).1,R'.m.has i _ hm,R'.m.below⟩
theorem pure_runs {f:FuncId} {fn:Func} (hf:P.funcs[f]? =some fn) {c:Code} (hb:fn.body=some c) {args:List Value} (hn:args.all np=true) {v:Value} {K:Exit→Sy→Prop} (h:Runs P c ⟨args ++ List.replicate (fn.ntmps - args.length) undef,[],True,[]⟩ K) (hr:∀ e s,K e s→e= .ret∧∃ vs,resS E s fn.results.toList=some vs∧one vs=v):Pure P f args.toArray v:=fun w=>by
  have hn':=List.all_eq_true.1 hn
  have:=reads_runs E hf hb (mem:= []) ⟨rfl,by decide⟩ (List.all_eq_true.2 fun v hv=>okp_np (hn' v hv)) h hr w (fun i=>i) (fun i x hx=>by simp at hx) (fun i h=>by simp at h)
  have e1:args.map (rn fun i=>i)=args:=by
    have:args.map (rn fun i=>i)=args.map id:=List.map_congr_left (fun u hu=>rn_np (hn' u hu))
    rw[this,List.map_id]
  rw[e1] at this
  exact this
def pnum:Value→Nat
  | .pointer (some ⟨i,_,none⟩)=>i
  | .slice (some ⟨i,_,none⟩) _ _=>i
  |_=>0
def dn (n M:Nat):Value→Value
  | .pointer (some ⟨i,o,none⟩)=>if n≤i then .pointer (some ⟨i+M,o,none⟩) else .pointer (some ⟨i,o,none⟩)
  | .slice (some ⟨i,o,none⟩) l c=>if n≤i then .slice (some ⟨i+M,o,none⟩) l c else .slice (some ⟨i,o,none⟩) l c
  |v=>v
theorem pnum_bd (tm:List Value):∃ M,big≤M∧∀ v ∈ tm,pnum v<M:=by
  induction tm with
  |nil=>exact⟨big,Nat.le_refl _,by simp⟩
  | cons v r ih =>
    obtain⟨M,h1,h2⟩:=ih
    refine⟨M+pnum v+1,by omega,fun u hu=> ?_⟩
    rcases List.mem_cons.1 hu with rfl|hu
    · omega
    · have:=h2 u hu;omega
theorem dn_rn {β : Nat → Nat} {n M : Nat} (hM : n ≤ M) {v : Value} (hv : pnum v < M) : rn (fun i => if M ≤ i then β (i - M) else β i) (dn n M v) = rn β v := by
  cases v with
  | pointer a =>
    cases a with
    |none=>rfl
    | some a =>
      obtain⟨i,o,s⟩:=a
      cases s with
      | none =>
        simp only[pnum] at hv
        simp only[dn]
        split
        · simp only [rn]
          rw[if_pos (by omega),Nat.add_sub_cancel]
        · simp only [rn]
          rw[if_neg (by omega)]
      |some s=>rfl
  | slice a l c =>
    cases a with
    |none=>rfl
    | some a =>
      obtain⟨i,o,s⟩:=a
      cases s with
      | none =>
        simp only[pnum] at hv
        simp only[dn]
        split
        · simp only [rn]
          rw[if_pos (by omega),Nat.add_sub_cancel]
        · simp only [rn]
          rw[if_neg (by omega)]
      |some s=>rfl
  |_=>rfl
theorem dn_ok {n m M : Nat} (hM : big ≤ M) {v : Value} (h : okp m v = true) : okp n (dn n M v) = true := by
  cases v with
  | pointer a =>
    cases a with
    |none=>simp[okp] at h
    | some a =>
      obtain⟨i,o,s⟩:=a
      cases s with
      | none =>
        simp only[dn]
        split
        · simp only[okp,Bool.or_eq_true,decide_eq_true_eq];omega
        · simp only[okp,Bool.or_eq_true,decide_eq_true_eq];omega
      |some s=>simp[okp] at h
  | slice a l c =>
    cases a with
    |none=>rfl
    | some a =>
      obtain⟨i,o,s⟩:=a
      cases s with
      | none =>
        simp only[dn]
        split
        · simp only[okp,Bool.or_eq_true,decide_eq_true_eq];omega
        · simp only[okp,Bool.or_eq_true,decide_eq_true_eq];omega
      |some s=>simp[okp] at h
  |_=>rfl
theorem Rl.drop {w0 W:World} {β:Nat→Nat} {tm:List Value} {mem g:List Mb} {c:Prop} {ch:List (Option Value)} {a:Act} (R:Rl fk w0 W β ⟨tm,mem ++ g,c,ch⟩ a) (hg:fk / big≤mem.length):∃ M β',Rl fk w0 W β' ⟨tm.map (dn mem.length M),mem,c,ch⟩ a:=by
  obtain⟨M,h1,h2⟩:=pnum_bd tm
  have hlt:mem.length<big:=by have:=R.m.lt;simp only[List.length_append] at this;omega
  have hl:∀ i,i<mem.length→(if M≤i then β (i - M) else β i)=β i:=fun i hi=>if_neg (by omega)
  refine⟨M,fun i=>if M≤i then β (i - M) else β i,⟨R.m.below,fun i hk hi=> ?_,fun i j hk hi hj e=> ?_,fun i x hx=> ?_,hlt,fun i h=>⟨Nat.lt_of_lt_of_le h hg,by rw[hl i (Nat.lt_of_lt_of_le h hg)];exact(R.m.gl i h).2⟩⟩,?_,R.d,fun v hv=> ?_⟩
  · have hi : i < mem.length := hi
    rw[hl i hi];exact R.m.own i hk (by simp only[List.length_append];omega)
  · have hi : i < mem.length := hi
    have hj:j<mem.length:=hj
    have e':β i=β j:=by have:=e;simp only[hl i hi,hl j hj] at this;exact this
    exact R.m.inj i j hk (by simp only[List.length_append];omega) (by simp only[List.length_append];omega) e'
  · have hi := (List.getElem?_eq_some_iff.1 hx).1
    rw[hl i hi]
    exact R.m.has i x (by rw[List.getElem?_append_left hi];exact hx)
  · rw [R.t, List.map_map]
    congr 1
    exact List.map_congr_left fun v hv=>(dn_rn (by omega) (h2 v hv)).symm
  · obtain ⟨u, hu, rfl⟩ := List.mem_map.1 hv
    exact dn_ok h1 (R.ok u hu)
theorem Runs.dropG {c:Code} {σ:Sy} {K1 K:Exit→Sy→Prop} (h:Runs P c σ K1 fk) (hK:∀ e s,K1 e s→∃ mem g,s.mem=mem ++ g∧fk / big≤mem.length∧∀ M,K e ⟨s.tm.map (dn mem.length M),mem,s.c,s.ch⟩):Runs P c σ K fk:=fun Q w0 W β a R h2=>
  h Q w0 W β a R (fun e s W' β' a' k R' => by
    obtain⟨mem,g,hm,hg,hk⟩:=hK e s k
    obtain⟨tm,m,q,ch⟩:=s
    simp only at hm
    subst hm
    obtain⟨M,β2,R2⟩:=R'.drop hg
    exact h2 e _ W' β2 a' (hk M) R2)
def bdy (fn:Func):Code:=fn.body.getD .skip
def cAt:List Nat→Code→Code
  | [],c=>c
  |0 :: r,.seq x _=>cAt r x
  |_ :: r,.seq _ y=>cAt r y
  |_ :: r,.block _ x=>cAt r x
  |_ :: r,.loop x=>cAt r x
  |0 :: r,.cond _ x _=>cAt r x
  |_ :: r,.cond _ _ y=>cAt r y
  |_,c=>c
end
end Go.Ev
