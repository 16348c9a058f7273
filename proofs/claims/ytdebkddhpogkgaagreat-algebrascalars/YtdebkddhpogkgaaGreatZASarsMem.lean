/-
  A call's own memory,as a list of its blocks:what each holds. Every block is the call's own:it lies above what was there ('w0'),and what was there stays.
-/
import Derived.Test.YtdebkddhpogkgaaGreatZASarsCalm
import Derived.Tactics
import Derived.Tactics2
import Derived.Laws.Rows
import Derived.Laws.Tables
import Derived.Laws.CopyOwn
import Derived.Laws.ResultCell
namespace Go.Calm
open Go.RowKit

structure Blk where
  b:Nat
  cs:Array Value
  t:TypeId
structure St (w0 W:World) (L:List Blk):Prop where
  below:Below w0.heap.size w0 W
  own:∀ x ∈ L,w0.heap.size≤x.b
  nd:(L.map Blk.b).Nodup
  has:∀ x ∈ L,W.heap[x.b]? =some (.cells x.cs x.t (0,0))

theorem St.start (w:World):St w w []:=⟨Below.refl _ _,by simp,by simp,by simp⟩
theorem St.call {w0 W W':World} {L:List Blk} (S:St w0 W L) (h:Below W.heap.size W W'):St w0 W' L:=
  ⟨Below.all_trans S.below h,S.own,S.nd,fun x hx=>by rw[h.block _ (lt_of_heap (S.has x hx))];exact S.has x hx⟩
theorem St.drew {w0 W:World} {L:List Blk} (S:St w0 W L):St w0 W.drew L:=⟨S.below.drew,S.own,S.nd,S.has⟩
theorem St.new {w0 W:World} {L:List Blk} (S:St w0 W L) (cs:Array Value) (t:TypeId):St w0 (W.alloc (.cells cs t)) (⟨W.heap.size,cs,t⟩ :: L):=by
  refine⟨S.below.alloc S.below.size _,fun x hx=> ?_,?_,fun x hx=> ?_⟩
  · rcases List.mem_cons.1 hx with rfl | hx
    · exact S.below.size
    · exact S.own x hx
  · simp only [List.map_cons, List.nodup_cons]
    refine⟨fun h=> ?_,S.nd⟩
    obtain⟨y,hy,e⟩:=List.mem_map.1 h
    have:=lt_of_heap (S.has y hy)
    omega
  · rcases List.mem_cons.1 hx with rfl | hx
    · exact heap_alloc_new _ _
    · rw[heap_alloc_old _ _ _ (lt_of_heap (S.has x hx))];exact S.has x hx
theorem St.sub {w0 W:World} {L L':List Blk} (S:St w0 W L) (h:L'.Sublist L):St w0 W L':=
  ⟨S.below,fun x hx=>S.own x (h.subset hx),List.Nodup.sublist (h.map _) S.nd,fun x hx=>S.has x (h.subset hx)⟩
theorem St.tail {w0 W:World} {x:Blk} {L:List Blk} (S:St w0 W (x :: L)):St w0 W L:=S.sub (List.sublist_cons_self _ _)

def wr (b:Nat) (cs:Array Value):List Blk→List Blk
  | []=> []
  |x :: r=>if x.b=b then⟨x.b,cs,x.t⟩ :: r else x :: wr b cs r
theorem wr_b (b:Nat) (cs:Array Value):∀ L:List Blk,(wr b cs L).map Blk.b=L.map Blk.b
  | []=>rfl
  |x :: r=>by unfold wr;split<;>simp[wr_b b cs r]
theorem mem_wr {b : Nat} {cs : Array Value} : ∀ {L : List Blk}, (L.map Blk.b).Nodup → ∀ x ∈ wr b cs L, (x.b = b ∧ x.cs = cs ∧ ∃ y ∈ L, y.b = b ∧ y.t = x.t) ∨ (x.b ≠ b ∧ x ∈ L)
  | [],_,x,h=>by cases h
  | y :: r, nd, x, h => by
    simp only[List.map_cons,List.nodup_cons] at nd
    unfold wr at h
    split at h
    · rename_i e
      rcases List.mem_cons.1 h with rfl|h
      · exact .inl ⟨e,rfl,y,List.mem_cons_self,e,rfl⟩
      · refine .inr ⟨fun e' => nd.1 ?_, List.mem_cons_of_mem _ h⟩
        rw[e,← e'];exact List.mem_map.2 ⟨x,h,rfl⟩
    · rename_i e
      rcases List.mem_cons.1 h with rfl|h
      · exact .inr ⟨e,List.mem_cons_self⟩
      · rcases mem_wr nd.2 x h with ⟨h1, h2, z, hz, h3⟩ | ⟨h1, h2⟩
        · exact .inl ⟨h1,h2,z,List.mem_cons_of_mem _ hz,h3⟩
        · exact .inr ⟨h1,List.mem_cons_of_mem _ h2⟩
theorem St.store {w0 W:World} {L:List Blk} (S:St w0 W L) {b:Nat} {old:Array Value} {t:TypeId} (hm:⟨b,old,t⟩ ∈ L) (cs:Array Value):St w0 (W.setRow b cs) (wr b cs L):=by
  have hb:=S.has _ hm
  have hown:=S.own _ hm
  refine⟨below_setRow S.below hown cs,fun x hx=> ?_,by rw[wr_b];exact S.nd,fun x hx=> ?_⟩
  · have : x.b ∈ (wr b cs L).map Blk.b := List.mem_map.2 ⟨x, hx, rfl⟩
    rw[wr_b] at this
    obtain⟨y,hy,e⟩:=List.mem_map.1 this
    rw[← e];exact S.own y hy
  · rcases mem_wr S.nd x hx with ⟨h1, h2, y, hy, h3, h4⟩ | ⟨h1, h2⟩
    · rw [h1, h2, ← h4]
      have hy':=S.has y hy
      rw[h3] at hy'
      exact setRow_heap W b _ cs _ _ hy'
    · rw[setRow_other _ _ _ _ h1];exact S.has x h2

def aggB:TypeDesc→Bool
  | .struct _=>true
  | .array _ _=>true
  |_=>false
def Foc (L:List Blk) (b:Nat) (old:Array Value) (t:TypeId) (cs:Array Value) (L':List Blk):Prop:=∃ L1 L2,L=L1 ++ ⟨b,old,t⟩ :: L2∧L'=L1 ++ ⟨b,cs,t⟩ :: L2
theorem foc_hd {b:Nat} {old cs:Array Value} {t:TypeId} {r:List Blk}:Foc (⟨b,old,t⟩ :: r) b old t cs (⟨b,cs,t⟩ :: r):=⟨[],r,rfl,rfl⟩
theorem foc_tl {x:Blk} {b:Nat} {old cs:Array Value} {t:TypeId} {r r':List Blk} (h:Foc r b old t cs r'):Foc (x :: r) b old t cs (x :: r'):=by
  obtain⟨L1,L2,e,e'⟩:=h
  exact⟨x :: L1,L2,by rw[e];rfl,by rw[e'];rfl⟩
theorem Foc.mem {L L':List Blk} {b:Nat} {old cs:Array Value} {t:TypeId} (h:Foc L b old t cs L'):⟨b,old,t⟩ ∈ L:=by
  obtain⟨L1,L2,e,_⟩:=h
  rw[e];simp
theorem wr_append {b:Nat} {cs old:Array Value} {t:TypeId} {L2:List Blk}:∀ L1:List Blk,((L1 ++ ⟨b,old,t⟩ :: L2).map Blk.b).Nodup→wr b cs (L1 ++ ⟨b,old,t⟩ :: L2)=L1 ++ ⟨b,cs,t⟩ :: L2
  | [],_=>by simp[wr]
  | x :: r, nd => by
    simp only[List.cons_append,List.map_cons,List.nodup_cons] at nd
    have hx:x.b≠b:=fun e=>nd.1 (by rw[e];exact List.mem_map.2 ⟨⟨b,old,t⟩,by simp,rfl⟩)
    show wr b cs (x :: (r ++ _))=_
    unfold wr
    rw[if_neg hx,wr_append r nd.2]
    rfl
theorem St.storeF {w0 W:World} {L L':List Blk} (S:St w0 W L) {b:Nat} {old cs:Array Value} {t:TypeId} (h:Foc L b old t cs L'):St w0 (W.setRow b cs) L':=by
  have:=S.store h.mem cs
  obtain⟨L1,L2,e,e'⟩:=h
  subst e e'
  rwa[wr_append L1 S.nd] at this

theorem St.setCell {w0 W:World} {L L':List Blk} (S:St w0 W L) {b j:Nat} {old:Array Value} {t:TypeId} {v:Value} (h:Foc L b old t (old.setIfInBounds j v) L'):St w0 (W.setCell ⟨b,j,none⟩ v) L':=by
  rw[setCell_eq_setRow W b j old t _ v (S.has _ h.mem)]
  exact S.storeF h
theorem St.ex {w0 W:World} {L:List Blk} (S:St w0 W L):∃ W',St w0 W' L∧W'=W:=⟨W,S,rfl⟩
theorem St.cell {w0 W:World} {L:List Blk} (S:St w0 W L) {b:Nat} {cs:Array Value} {t:TypeId} (h:⟨b,cs,t⟩ ∈ L):(∀ j,W.cell? ⟨b,j,none⟩=cs[j]?)∧∀ j,W.frozen? ⟨b,j,none⟩=false:=
  ⟨fun j=>cell_of_row W b j cs t _ (S.has _ h),fun j=>frozen_of_row W b j cs t (S.has _ h)⟩

structure AggT (P:Program) (ty:TypeId) (k:Nat):Prop where
  agg:∃ d,P.underlying ty=some d∧aggB d=true
  size:(P.info? ty).map (·.size)=some k
structure OneT (P:Program) (ty:TypeId):Prop where
  one:∃ d,P.underlying ty=some d∧aggB d=false
  size:(P.info? ty).map (·.size)=some 1

theorem AggT.load {P:Program} {ty:TypeId} {k:Nat} (T:AggT P ty k) (w:World) (b:Nat) (t:TypeId) (cs:Array Value) (hg:w.heap[b]? =some (.cells cs t (0,0))) (hk:k=cs.size):(loadVar ty ⟨b,0,none⟩).run P w= .ok (.agg cs) w:=by
  obtain⟨d,hu,hd⟩:=T.agg
  cases d<;>first
    |(simp[aggB] at hd;done)
    |exact run_loadVar_row w b t ty cs (0,0) _ hg hu rfl (by rw[T.size,hk])

section
variable {P:Program} {ops:Array Oper} {rest:List Oper} {o:Oper} {a:Act} {w0 W:World} {L:List Blk} {Q:Exit→Act→World→Prop}

/-! ### One operation behind the other -/
theorem wpList_wanted (hw:Region.wanted o (yielded ops a.tmps)=true) (h:∀ K:Act→World→Prop,(∀ a w,wpList P ops Q rest a w→K a w)→o.wp P a W K Q):wpList P ops Q (o :: rest) a W:=
  wpList_step fun K hK=>by rw[if_pos hw];exact h K hK
theorem wl_off (hw:Region.wanted o (yielded ops a.tmps)=false) (h:wpList P ops Q rest (a.put o.dst undef) W):wpList P ops Q (o :: rest) a W:=
  wpList_step fun K hK=>by rw[if_neg (by rw[hw];decide)];exact hK _ _ h
theorem g_load {ty:TypeId} {x:Operand} (_:o.op= .load ty x) (h:wpList P ops Q (o :: rest) a W):wpList P ops Q (o :: rest) a W:=h
theorem g_store {ty:TypeId} {x y:Operand} (_:o.op= .store ty x y) (h:wpList P ops Q (o :: rest) a W):wpList P ops Q (o :: rest) a W:=h
theorem wl_box (S:St w0 W L) {ty:TypeId} {x:Operand} {cs:Array Value} (hw:Region.wanted o (yielded ops a.tmps)=true) (ho:o.op= .box ty x) (hx:a.eval x= .agg cs)
    (h:∀ b W',St w0 W' (⟨b,cs,ty⟩ :: L)→wpList P ops Q rest (a.put o.dst (.pointer (some ⟨b,0,none⟩))) W'):wpList P ops Q (o :: rest) a W:=by
  refine wpList_wanted hw fun K hK=> ?_
  unfold Oper.wp execOp
  simp only[ho,hx]
  exact hK _ _ (h _ _ (S.new cs ty))
theorem wl_new (S:St w0 W L) {ty:TypeId} {cs:Array Value} (hw:Region.wanted o (yielded ops a.tmps)=true) (ho:o.op= .alloc ty) (hz:(P.info? ty).bind (·.zero)=some (.agg cs))
    (h:∀ b W',St w0 W' (⟨b,cs,ty⟩ :: L)→wpList P ops Q rest (a.put o.dst (.pointer (some ⟨b,0,none⟩))) W'):wpList P ops Q (o :: rest) a W:=by
  refine wpList_wanted hw fun K hK=> ?_
  unfold Oper.wp execOp
  cases hq:P.info? ty with
  |none=>simp[hq] at hz
  | some i =>
    have hs:i.zero=some (.agg cs):=by simpa[hq] using hz
    simp only[ho,Instr.alloc,zeroValue,typeInfo,Sem.run_bind]
    simp[hq,hs]
    exact hK _ _ (h _ _ (S.new cs ty))
theorem wl_load (S:St w0 W L) {ty:TypeId} {x:Operand} {b:Nat} {cs:Array Value} {t:TypeId} {k:Nat} (hw:Region.wanted o (yielded ops a.tmps)=true) (ho:o.op= .load ty x) (hx:a.eval x= .pointer (some ⟨b,0,none⟩)) (hm:⟨b,cs,t⟩ ∈ L)
    (T:AggT P ty k) (hk:k=cs.size)
    (h:wpList P ops Q rest (a.put o.dst (.agg cs)) W):wpList P ops Q (o :: rest) a W:=
  wpList_wanted hw fun K hK=>by
    unfold Oper.wp execOp
    simp only[ho,hx,Instr.loadAt,Instr.sureAddr,Sem.run_bind,Sem.run_pure,Result.andThen_ok,T.load W b t cs (S.has _ hm) hk]
    exact hK _ _ h
theorem wl_store (S:St w0 W L) {ty:TypeId} {x y:Operand} {b:Nat} {cs old:Array Value} {t:TypeId} {k:Nat} (hw:Region.wanted o (yielded ops a.tmps)=true) (ho:o.op= .store ty x y) (hx:a.eval x= .pointer (some ⟨b,0,none⟩)) (hy:a.eval y= .agg cs) {L':List Blk} (hm:Foc L b old t cs L')
    (T:AggT P ty k) (hk:k=cs.size) (hold:k=old.size) (h1:cs.all (·.oneCell')=true)
    (h:∀ W',St w0 W' L'→wpList P ops Q rest (a.put o.dst undef) W'):wpList P ops Q (o :: rest) a W:=
  wpList_wanted hw fun _ hK=>wp_store_row ty x y ho b cs hx hy t old (S.has _ hm.mem) (by rw[T.size,hk]) (by rw[← hold,hk]) h1 (hK _ _ (h _ (S.storeF hm)))

theorem run_loadVar_one (w:World) (b j:Nat) (t ty:TypeId) (cs:Array Value) (d:TypeDesc) (v:Value) (hg:w.heap[b]? =some (.cells cs t (0,0))) (hv:cs[j]? =some v)
    (hu:P.underlying ty=some d) (hd:aggB d=false):(loadVar ty ⟨b,j,none⟩).run P w= .ok v w:=by
  have hagg:(isAgg ty).run P w= .ok false w:=by
    unfold isAgg
    rw[Sem.run_bind,run_underlying hu w]
    cases d<;>simp_all [aggB]
  have hc:w.cell? ⟨b,j,none⟩=some v:=by rw[cell_of_row w b j cs t _ hg,hv]
  simp[loadVar,Sem.run_bind,hagg,hc]
theorem wl_loadE (S:St w0 W L) {ty:TypeId} {x:Operand} {b j:Nat} {cs:Array Value} {t:TypeId} {v:Value} (hw:Region.wanted o (yielded ops a.tmps)=true) (ho:o.op= .load ty x) (hx:a.eval x= .pointer (some ⟨b,j,none⟩)) (hm:⟨b,cs,t⟩ ∈ L) (hv:cs[j]? =some v)
    (T:OneT P ty)
    (h:wpList P ops Q rest (a.put o.dst v) W):wpList P ops Q (o :: rest) a W:=by
  obtain⟨d,hu,hd⟩:=T.one
  refine wpList_wanted hw fun K hK=> ?_
  unfold Oper.wp execOp
  simp only[ho,hx,Instr.loadAt,Instr.sureAddr,Sem.run_bind,Sem.run_pure,Result.andThen_ok,run_loadVar_one W b j t ty cs d v (S.has _ hm) hv hu hd]
  exact hK _ _ h
theorem wl_storeE (S:St w0 W L) {ty:TypeId} {x y:Operand} {b j:Nat} {old:Array Value} {t:TypeId} {v:Value} (hw:Region.wanted o (yielded ops a.tmps)=true) (ho:o.op= .store ty x y) (hx:a.eval x= .pointer (some ⟨b,j,none⟩)) (hy:a.eval y=v) {L':List Blk} {cs:Array Value} (hcs:cs=old.setIfInBounds j v) (hf:Foc L b old t cs L')
    (T:OneT P ty) (hj:j<old.size) (h1:v.oneCell'=true)
    (h:∀ W',St w0 W' L'→wpList P ops Q rest (a.put o.dst undef) W'):wpList P ops Q (o :: rest) a W:=by
  subst hcs
  have hm:=hf.mem
  refine wpList_wanted hw fun K hK=> ?_
  have hi:=T.size
  have hc:v.cells= #[v]:=by cases v<;>simp_all [Value.oneCell',Value.cells]
  have hr : (storeVar ty ⟨b, j, none⟩ v).run P W = .ok () (W.setRow b (old.setIfInBounds j v)) := by
    cases hq:P.info? ty with
    |none=>simp[hq] at hi
    | some i =>
      have hs:i.size=1:=by simpa[hq] using hi
      have h2:W.cell? ⟨b,j,none⟩=some old[j]:=by rw[cell_of_row W b j old t _ (S.has _ hm)];simp[hj]
      have h3:=frozen_of_row W b j old t (S.has _ hm)
      rw[← setCell_eq_setRow W b j old t _ v (S.has _ hm)]
      have hadd:(⟨b,j,none⟩:Addr).add 0=⟨b,j,none⟩:=by unfold Addr.add;split<;>simp_all
      have hst:=run_store P W ⟨b,j,none⟩ v
      simp[storeVar,sizeOf,typeInfo,hq,hs,hc,storeCells,hadd,hst _ h1,h2,h3]
  unfold Oper.wp execOp
  simp only[ho,hx,hy,Instr.storeAt,Instr.sureAddr,Sem.run_bind,Sem.run_pure,Result.andThen_ok,hr]
  exact hK _ _ (h _ (S.storeF hf))

/-! ### The head of a region that draws -/
structure walkN (P:Program) (ops:Array Oper) (W:World) (al:List (Nat×Tmp)) (R:Act→Prop) (n:Nat) (l:List Oper) (a:Act):Prop where
  out:walkR P ops W al R n l a
variable {al:List (Nat×Tmp)} {R:Act→Prop} {n:Nat}
theorem gn_load {ty:TypeId} {x:Operand} (_:o.op= .load ty x) (h:walkN P ops W al R n (o :: rest) a):walkN P ops W al R n (o :: rest) a:=h
theorem wn_nil (h:R a):walkN P ops W al R n [] a:=⟨h⟩
theorem wn_skip (hal:(al.map Prod.fst).contains n=true) (h:walkN P ops W al R (n+1) rest a):walkN P ops W al R n (o :: rest) a:=by
  refine⟨?_⟩;unfold walkR;rw[if_pos hal];exact h.out
theorem wn_off (hal:(al.map Prod.fst).contains n=false) (hw:Region.wanted o (yielded ops a.tmps)=false) (h:walkN P ops W al R (n+1) rest (a.put o.dst undef)):walkN P ops W al R n (o :: rest) a:=by
  refine⟨?_⟩;unfold walkR;rw[if_neg (by rw[hal];decide),if_neg (by rw[hw];decide)];exact h.out
theorem wn_step {v:Value} (hal:(al.map Prod.fst).contains n=false) (hw:Region.wanted o (yielded ops a.tmps)=true) (hv:∀ w,Below W.heap.size W w→upon P w v ((execOp a.eval o).run P w))
    (h:walkN P ops W al R (n+1) rest (a.put o.dst v)):walkN P ops W al R n (o :: rest) a:=by
  refine⟨?_⟩;unfold walkR;rw[if_neg (by rw[hal];decide),if_pos hw];exact⟨v,hv,h.out⟩
theorem wn_val {v:Value} (hal:(al.map Prod.fst).contains n=false) (hw:Region.wanted o (yielded ops a.tmps)=true) (hv:∀ w,(execOp a.eval o).run P w= .ok (.value v) w)
    (h:walkN P ops W al R (n+1) rest (a.put o.dst v)):walkN P ops W al R n (o :: rest) a:=
  wn_step hal hw (fun w _=>by rw[hv w];exact⟨rfl,rfl⟩) h
theorem wn_move {x:Operand} (hal:(al.map Prod.fst).contains n=false) (hw:Region.wanted o (yielded ops a.tmps)=true) (ho:o.op= .move x∨o.op= .assign x)
    (h:walkN P ops W al R (n+1) rest (a.put o.dst (a.eval x))):walkN P ops W al R n (o :: rest) a:=
  wn_val hal hw (fun w=>by unfold execOp;rcases ho with ho|ho<;>simp only[ho]<;>rfl) h
theorem wn_call {f:FuncId} {as:Array Operand} {ts:Array TypeId} {args:Array Value} {v:Value} (hal:(al.map Prod.fst).contains n=false) (hw:Region.wanted o (yielded ops a.tmps)=true) (_ho:o.op= .call { callee:= .value (.func f),args:=as,argTypes:=ts }) (hr:∀ w,(execOp a.eval o).run P w= .ok (.enter f args) w)
    (hc:∀ w,Calls P f args w (fun e w''=>e= .returned v∧Below w.heap.size w w''))
    (h:walkN P ops W al R (n+1) rest (a.put o.dst v)):walkN P ops W al R n (o :: rest) a:=
  wn_step hal hw (fun w _=>by rw[hr w];exact⟨rfl,hc w⟩) h
theorem wn_load (S:St w0 W L) {ty:TypeId} {x:Operand} {b:Nat} {cs:Array Value} {t:TypeId} {k:Nat} (hal:(al.map Prod.fst).contains n=false) (hw:Region.wanted o (yielded ops a.tmps)=true) (ho:o.op= .load ty x) (hx:a.eval x= .pointer (some ⟨b,0,none⟩)) (hm:⟨b,cs,t⟩ ∈ L)
    (T:AggT P ty k) (hk:k=cs.size)
    (h:walkN P ops W al R (n+1) rest (a.put o.dst (.agg cs))):walkN P ops W al R n (o :: rest) a:=
  wn_step hal hw (fun w hb=>by
    unfold execOp
    simp only[ho,hx,Instr.loadAt,Instr.sureAddr,Sem.run_bind,Sem.run_pure,Result.andThen_ok,T.load w b t cs ((S.call hb).has _ hm) hk]
    exact⟨rfl,rfl⟩) h
theorem wn_loadE (S:St w0 W L) {ty:TypeId} {x:Operand} {b j:Nat} {cs:Array Value} {t:TypeId} {v:Value} (hal:(al.map Prod.fst).contains n=false) (hw:Region.wanted o (yielded ops a.tmps)=true) (ho:o.op= .load ty x) (hx:a.eval x= .pointer (some ⟨b,j,none⟩)) (hm:⟨b,cs,t⟩ ∈ L) (hv:cs[j]? =some v)
    (T:OneT P ty)
    (h:walkN P ops W al R (n+1) rest (a.put o.dst v)):walkN P ops W al R n (o :: rest) a:=
  let ⟨d,hu,hd⟩:=T.one
  wn_step hal hw (fun w hb=>by
    unfold execOp
    simp only[ho,hx,Instr.loadAt,Instr.sureAddr,Sem.run_bind,Sem.run_pure,Result.andThen_ok,run_loadVar_one w b j t ty cs d v ((S.call hb).has _ hm) hv hu hd]
    exact⟨rfl,rfl⟩) h
end

theorem walkR_mono {P:Program} {ops:Array Oper} {W:World} {al:List (Nat×Tmp)} {R R':Act→Prop} (h:∀ a,R a→R' a):∀(l:List Oper) (k:Nat) (a:Act),walkR P ops W al R k l a→walkR P ops W al R' k l a
  | [],_,_,hh=>h _ hh
  | o :: r, k, a, hh => by
    unfold walkR at hh ⊢
    split
    · rename_i hc;rw[if_pos hc] at hh;exact walkR_mono h r _ _ hh
    · rename_i hc
      rw[if_neg hc] at hh
      split
      · rename_i hw;rw[if_pos hw] at hh;exact step_mono (fun a'=>walkR_mono h r _ a') hh
      · rename_i hw;rw[if_neg hw] at hh;exact walkR_mono h r _ _ hh
theorem run_alloc {P:Program} {o:Oper} {t:TypeId} {cs:Array Value} (ho:o.op= .alloc t) (hz:(P.info? t).bind (·.zero)=some (.agg cs)) (a:Act) (w:World):(execOp a.eval o).run P w= .ok (.value (ptr w.heap.size)) (w.alloc (.cells cs t)):=by
  unfold execOp
  cases hq:P.info? t with
  |none=>simp[hq] at hz
  | some i =>
    have hs:i.zero=some (.agg cs):=by simpa[hq] using hz
    simp only[ho,Instr.alloc,zeroValue,typeInfo,Sem.run_bind]
    simp[hq,hs]
    rfl

section
variable {P:Program} {id:Nat} {l:List Oper} {a:Act} {w0 W:World} {L:List Blk} {Q:Exit→Act→World→Prop}

theorem region0 (S:St w0 W L) (n:Nat) (hm:P.follows .mixedOrders=true) (hB:calmB .any l.toArray n []=true)
    (h:St w0 W.drew L→walkN P l.toArray W.drew [] (fun a'=>∀ w',St w0 w' L→wpList P l.toArray Q (l.drop n) a' w') 0 (l.take n) a):(Code.region id l.toArray true).wp P Q a W:=
  wp_region n [] (fun _=> .cells #[] 0) hm hB rfl (fun x hx=>by cases hx) (by
    refine walkR_mono (fun a' h'=> ?_) _ _ _ (h S.drew).out
    intro β w' hb _ _
    exact h' w' (S.call hb))
theorem region1 (S:St w0 W L) (n k:Nat) (d:Tmp) (cs:Array Value) (t:TypeId) (hm:P.follows .mixedOrders=true) (hB:calmB .any l.toArray n [(k,d)]=true)
    (hno:(match l[k]? with|some o=>o.after.size == 0|none=>false)=true) (hop:(l[k]?).map (·.op)=some (.alloc t)) (hz:(P.info? t).bind (·.zero)=some (.agg cs))
    (h:St w0 W.drew L→walkN P l.toArray W.drew [(k,d)] (fun a'=>∀ b w',St w0 w' (⟨b,cs,t⟩ :: L)→wpList P l.toArray Q (l.drop n) (a'.put (some d) (.pointer (some ⟨b,0,none⟩))) w') 0 (l.take n) a):(Code.region id l.toArray true).wp P Q a W:=
  wp_region n [(k,d)] (fun _=> .cells cs t) hm hB (by rw[List.all_cons,List.all_nil,Bool.and_true];exact hno) (fun x hx o ho a w=>by
    simp only[List.mem_singleton] at hx
    subst hx
    have hop':o.op= .alloc t:=by simpa[ho] using hop
    exact run_alloc hop' hz a w) (by
    refine walkR_mono (fun a' h'=> ?_) _ _ _ (h S.drew).out
    intro β w' hb h1 _
    obtain⟨p1,p2⟩:=h1 (k,d) List.mem_cons_self
    refine h' (β d) w' ⟨(S.call hb).below,fun x hx=> ?_,?_,fun x hx=> ?_⟩
    · rcases List.mem_cons.1 hx with rfl | hx
      · exact Nat.le_trans S.below.size p1
      · exact S.own x hx
    · simp only [List.map_cons, List.nodup_cons]
      refine⟨fun h=> ?_,S.nd⟩
      obtain⟨y,hy,e⟩:=List.mem_map.1 h
      have:=lt_of_heap (S.has y hy)
      simp only at p1
      omega
    · rcases List.mem_cons.1 hx with rfl | hx
      · exact p2
      · exact(S.call hb).has x hx)
theorem ret_cell (S:St w0 W L) {fn:Func} {p:Tmp} {ty:TypeId} {b:Nat} {cs:Array Value} {t:TypeId} {k:Nat} {q:Ending→World→Prop} (hr:fn.results= #[.cell p ty]) (hp:a.tmps.getD p undef= .pointer (some ⟨b,0,none⟩)) (hm:⟨b,cs,t⟩ ∈ L)
    (T:AggT P ty k) (hk:k=cs.size) (hdf:a.defers= [])
    (h:q (.returned (.agg cs)) W):bodyPost P fn q .ret a W:=
  bodyPost_ret (v:= .agg cs) (by
    have hp':a.tmps[p]?.getD undef= .pointer (some ⟨b,0,none⟩):=by simpa using hp
    simp[results,hr,hp',asAddr,T.load W b t cs (S.has _ hm) hk]) hdf h
end
end Go.Calm
