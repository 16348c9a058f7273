/-
  A call's own memory,as a list of its blocks:what each holds. Every block is the call's own:it lies above what was there ('w0'),and what was there stays.
-/
import Derived.Test.YtcfnjcacdmkgbaaDoorZMEndsCalm
import Derived.Tactics
import Derived.Tactics2
import Derived.Laws.Rows
import Derived.Laws.Tables
import Derived.Laws.CopyOwn
import Derived.Laws.ResultCell
namespace Go.Calm
open Go.RowKit

structure Blk where
  b:Nat
  cs:Array Value
  t:TypeId
structure St (w0 W:World) (L:List Blk):Prop where
  below:Below w0.heap.size w0 W
  own:∀ x ∈ L,w0.heap.size≤x.b
  nd:(L.map Blk.b).Nodup
  has:∀ x ∈ L,W.heap[x.b]? =some (.cells x.cs x.t (0,0))

theorem St.call {w0 W W':World} {L:List Blk} (S:St w0 W L) (h:Below W.heap.size W W'):St w0 W' L:=
  ⟨Below.all_trans S.below h,S.own,S.nd,fun x hx=>by rw[h.block _ (lt_of_heap (S.has x hx))];exact S.has x hx⟩
theorem St.drew {w0 W:World} {L:List Blk} (S:St w0 W L):St w0 W.drew L:=⟨S.below.drew,S.own,S.nd,S.has⟩
theorem St.new {w0 W:World} {L:List Blk} (S:St w0 W L) (cs:Array Value) (t:TypeId):St w0 (W.alloc (.cells cs t)) (⟨W.heap.size,cs,t⟩ :: L):=by
  refine⟨S.below.alloc S.below.size _,fun x hx=> ?_,?_,fun x hx=> ?_⟩
  · rcases List.mem_cons.1 hx with rfl | hx
    · exact S.below.size
    · exact S.own x hx
  · simp only [List.map_cons, List.nodup_cons]
    refine⟨fun h=> ?_,S.nd⟩
    obtain⟨y,hy,e⟩:=List.mem_map.1 h
    have:=lt_of_heap (S.has y hy)
    omega
  · rcases List.mem_cons.1 hx with rfl | hx
    · exact heap_alloc_new _ _
    · rw[heap_alloc_old _ _ _ (lt_of_heap (S.has x hx))];exact S.has x hx
theorem St.sub {w0 W:World} {L L':List Blk} (S:St w0 W L) (h:L'.Sublist L):St w0 W L':=
  ⟨S.below,fun x hx=>S.own x (h.subset hx),List.Nodup.sublist (h.map _) S.nd,fun x hx=>S.has x (h.subset hx)⟩
theorem St.tail {w0 W:World} {x:Blk} {L:List Blk} (S:St w0 W (x :: L)):St w0 W L:=S.sub (List.sublist_cons_self _ _)


def aggB:TypeDesc→Bool
  | .struct _=>true
  | .array _ _=>true
  |_=>false
def Foc (L:List Blk) (b:Nat) (old:Array Value) (t:TypeId) (cs:Array Value) (L':List Blk):Prop:=∃ L1 L2,L=L1 ++ ⟨b,old,t⟩ :: L2∧L'=L1 ++ ⟨b,cs,t⟩ :: L2
theorem Foc.mem {L L':List Blk} {b:Nat} {old cs:Array Value} {t:TypeId} (h:Foc L b old t cs L'):⟨b,old,t⟩ ∈ L:=by
  obtain⟨L1,L2,e,_⟩:=h
  rw[e];simp

theorem St.ex {w0 W:World} {L:List Blk} (S:St w0 W L):∃ W',St w0 W' L∧W'=W:=⟨W,S,rfl⟩

structure AggT (P:Program) (ty:TypeId) (k:Nat):Prop where
  agg:∃ d,P.underlying ty=some d∧aggB d=true
  size:(P.info? ty).map (·.size)=some k
structure OneT (P:Program) (ty:TypeId):Prop where
  one:∃ d,P.underlying ty=some d∧aggB d=false
  size:(P.info? ty).map (·.size)=some 1

theorem AggT.load {P:Program} {ty:TypeId} {k:Nat} (T:AggT P ty k) (w:World) (b:Nat) (t:TypeId) (cs:Array Value) {fr:Nat×Nat} (hg:w.heap[b]? =some (.cells cs t fr)) (hk:k=cs.size):(loadVar ty ⟨b,0,none⟩).run P w= .ok (.agg cs) w:=by
  obtain⟨d,hu,hd⟩:=T.agg
  cases d<;>first
    |(simp[aggB] at hd;done)
    |exact run_loadVar_row w b t ty cs fr _ hg hu rfl (by rw[T.size,hk])

section
variable {P:Program} {ops:Array Oper} {rest:List Oper} {o:Oper} {a:Act} {w0 W:World} {L:List Blk} {Q:Exit→Act→World→Prop}

/-! ### One operation behind the other -/
theorem wpList_wanted (hw:Region.wanted o (yielded ops a.tmps)=true) (h:∀ K:Act→World→Prop,(∀ a w,wpList P ops Q rest a w→K a w)→o.wp P a W K Q):wpList P ops Q (o :: rest) a W:=
  wpList_step fun K hK=>by rw[if_pos hw];exact h K hK
theorem wl_off (hw:Region.wanted o (yielded ops a.tmps)=false) (h:wpList P ops Q rest (a.put o.dst undef) W):wpList P ops Q (o :: rest) a W:=
  wpList_step fun K hK=>by rw[if_neg (by rw[hw];decide)];exact hK _ _ h

theorem run_loadVar_one (w:World) (b j:Nat) (t ty:TypeId) (cs:Array Value) (d:TypeDesc) (v:Value) {fr:Nat×Nat} (hg:w.heap[b]? =some (.cells cs t fr)) (hv:cs[j]? =some v)
    (hu:P.underlying ty=some d) (hd:aggB d=false):(loadVar ty ⟨b,j,none⟩).run P w= .ok v w:=by
  have hagg:(isAgg ty).run P w= .ok false w:=by
    unfold isAgg
    rw[Sem.run_bind,run_underlying hu w]
    cases d<;>simp_all [aggB]
  have hc:w.cell? ⟨b,j,none⟩=some v:=by rw[cell_of_row w b j cs t _ hg,hv]
  simp[loadVar,Sem.run_bind,hagg,hc]

/-! ### The head of a region that draws -/
variable {al:List (Nat×Tmp)} {R:Act→Prop} {n:Nat}
end

theorem run_alloc {P:Program} {o:Oper} {t:TypeId} {cs:Array Value} (ho:o.op= .alloc t) (hz:(P.info? t).bind (·.zero)=some (.agg cs)) (a:Act) (w:World):(execOp a.eval o).run P w= .ok (.value (ptr w.heap.size)) (w.alloc (.cells cs t)):=by
  unfold execOp
  cases hq:P.info? t with
  |none=>simp[hq] at hz
  | some i =>
    have hs:i.zero=some (.agg cs):=by simpa[hq] using hz
    simp only[ho,Instr.alloc,zeroValue,typeInfo,Sem.run_bind]
    simp[hq,hs]
    rfl

section
variable {P:Program} {id:Nat} {l:List Oper} {a:Act} {w0 W:World} {L:List Blk} {Q:Exit→Act→World→Prop}

end
end Go.Calm
