/-
  An array of arrays:one of its elements loaded,stored.
-/
import Derived.Test.YtcfnjcacdmkgbaaDoorZMEndsMem
import Derived.Laws.CopyRow
import Derived.Deep.MidRow
namespace Go.Calm
open Go.RowKit

def splice (old:Array Value) (o:Nat) (cs:Array Value):Array Value:=(old.toList.take o ++ cs.toList ++ old.toList.drop (o+cs.size)).toArray

section
variable {P:Program} {ops:Array Oper} {rest:List Oper} {o:Oper} {a:Act} {w0 W:World} {L:List Blk} {Q:Exit→Act→World→Prop}
theorem AggT.loadM {ty:TypeId} {k:Nat} (T:AggT P ty k) (w:World) (b off:Nat) (t:TypeId) (old cs:Array Value) {fr:Nat×Nat} (hg:w.heap[b]? =some (.cells old t fr)) (hk:k=cs.size) (hc:old.extract off (off+k)=cs):(loadVar ty ⟨b,off,none⟩).run P w= .ok (.agg cs) w:=by
  obtain⟨d,hu,hd⟩:=T.agg
  have hr:=World.rangeAt_of_block hg off k
  rw[hc] at hr
  have hi:(P.info? ty).map (·.size)=some cs.toList.length:=by rw[T.size,hk];simp
  cases d<;>first
    |(simp[aggB] at hd;done)
    |(have:=run_loadVar_mid w b off ty cs.toList _ hr hu rfl hi;simpa using this)
theorem run_storeVar_at {ty:TypeId} {k:Nat} (T:AggT P ty k) (w:World) (b off:Nat) (t:TypeId) (old cs:Array Value) (hg:w.heap[b]? =some (.cells old t (0,0))) (hk:k=cs.size) (hfit:off+cs.size≤old.size) (h1:cs.all (·.oneCell')=true):
    (storeVar ty ⟨b,off,none⟩ (.agg cs)).run P w= .ok () (w.setRow b (splice old off cs)):=by
  have:=run_storeCells_at P b off t cs.toList 0 old w hg (by simpa using hfit) (fun v hv=>(Array.all_eq_true_iff_forall_mem.1 h1) v (by simpa using hv))
  have hs:=T.size
  cases hq:P.info? ty with
  |none=>simp[hq] at hs
  | some i =>
    have hi:i.size=k:=by simpa[hq] using hs
    have h3:cs.size=i.size:=by rw[hi,hk]
    simp only[Nat.add_zero] at this
    simp[storeVar,sizeOf,typeInfo,hq,Value.cells,h3,this,splice]
variable {al:List (Nat×Tmp)} {R:Act→Prop} {n:Nat}
end

end Go.Calm
