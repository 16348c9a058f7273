/-
  An array of arrays:one of its elements loaded,stored.
-/
import Derived.Test.YtdebkddhpogkgaaGreatZASarsMem
import Derived.Laws.CopyRow
import Derived.Deep.MidRow
namespace Go.Calm
open Go.RowKit

def splice (old:Array Value) (o:Nat) (cs:Array Value):Array Value:=(old.toList.take o ++ cs.toList ++ old.toList.drop (o+cs.size)).toArray

section
variable {P:Program} {ops:Array Oper} {rest:List Oper} {o:Oper} {a:Act} {w0 W:World} {L:List Blk} {Q:Exit→Act→World→Prop}
theorem AggT.loadM {ty:TypeId} {k:Nat} (T:AggT P ty k) (w:World) (b off:Nat) (t:TypeId) (old cs:Array Value) (hg:w.heap[b]? =some (.cells old t (0,0))) (hk:k=cs.size) (hc:old.extract off (off+k)=cs):(loadVar ty ⟨b,off,none⟩).run P w= .ok (.agg cs) w:=by
  obtain⟨d,hu,hd⟩:=T.agg
  have hr:=World.rangeAt_of_block hg off k
  rw[hc] at hr
  have hi:(P.info? ty).map (·.size)=some cs.toList.length:=by rw[T.size,hk];simp
  cases d<;>first
    |(simp[aggB] at hd;done)
    |(have:=run_loadVar_mid w b off ty cs.toList _ hr hu rfl hi;simpa using this)
theorem run_storeVar_at {ty:TypeId} {k:Nat} (T:AggT P ty k) (w:World) (b off:Nat) (t:TypeId) (old cs:Array Value) (hg:w.heap[b]? =some (.cells old t (0,0))) (hk:k=cs.size) (hfit:off+cs.size≤old.size) (h1:cs.all (·.oneCell')=true):
    (storeVar ty ⟨b,off,none⟩ (.agg cs)).run P w= .ok () (w.setRow b (splice old off cs)):=by
  have:=run_storeCells_at P b off t cs.toList 0 old w hg (by simpa using hfit) (fun v hv=>(Array.all_eq_true_iff_forall_mem.1 h1) v (by simpa using hv))
  have hs:=T.size
  cases hq:P.info? ty with
  |none=>simp[hq] at hs
  | some i =>
    have hi:i.size=k:=by simpa[hq] using hs
    have h3:cs.size=i.size:=by rw[hi,hk]
    simp only[Nat.add_zero] at this
    simp[storeVar,sizeOf,typeInfo,hq,Value.cells,h3,this,splice]
theorem wl_storeM (S:St w0 W L) {ty:TypeId} {x y:Operand} {b off:Nat} {old cs new:Array Value} {t:TypeId} {k:Nat} (hw:Region.wanted o (yielded ops a.tmps)=true) (ho:o.op= .store ty x y) (hx:a.eval x= .pointer (some ⟨b,off,none⟩)) (hy:a.eval y= .agg cs) {L':List Blk} (hf:Foc L b old t new L')
    (T:AggT P ty k) (hk:k=cs.size) (hfit:off+cs.size≤old.size) (h1:cs.all (·.oneCell')=true) (hnew:splice old off cs=new)
    (h:∀ W',St w0 W' L'→wpList P ops Q rest (a.put o.dst undef) W'):wpList P ops Q (o :: rest) a W:=
  wpList_wanted hw fun K hK=>by
    unfold Oper.wp execOp
    simp only[ho,hx,hy,Instr.storeAt,Instr.sureAddr,Sem.run_bind,Sem.run_pure,Result.andThen_ok,run_storeVar_at T W b off t old cs (S.has _ hf.mem) hk hfit h1,hnew]
    exact hK _ _ (h _ (S.storeF hf))
variable {al:List (Nat×Tmp)} {R:Act→Prop} {n:Nat}
theorem wn_loadM (S:St w0 W L) {ty:TypeId} {x:Operand} {b off:Nat} {old cs:Array Value} {t:TypeId} {k:Nat} (hal:(al.map Prod.fst).contains n=false) (hw:Region.wanted o (yielded ops a.tmps)=true) (ho:o.op= .load ty x) (hx:a.eval x= .pointer (some ⟨b,off,none⟩)) (hm:⟨b,old,t⟩ ∈ L)
    (T:AggT P ty k) (hk:k=cs.size) (hc:old.extract off (off+k)=cs)
    (h:walkN P ops W al R (n+1) rest (a.put o.dst (.agg cs))):walkN P ops W al R n (o :: rest) a:=
  wn_step hal hw (fun w hb=>by
    unfold execOp
    simp only[ho,hx,Instr.loadAt,Instr.sureAddr,Sem.run_bind,Sem.run_pure,Result.andThen_ok,T.loadM w b off t old cs ((S.call hb).has _ hm) hk hc]
    exact⟨rfl,rfl⟩) h
end

def flat (g:Nat→List Value):Nat→List Value
  |0=> []
  |n+1=>flat g n ++ g n
def updL (g:Nat→List Value) (i:Nat) (x:List Value):Nat→List Value:=fun j=>if j=i then x else g j
theorem flat_length {g:Nat→List Value} {m:Nat} (h:∀ j,(g j).length=m):∀ n,(flat g n).length=m*n
  |0=>rfl
  |n+1=>by rw[flat,List.length_append,flat_length h n,h];rw[Nat.mul_succ]
theorem flat_congr {g g':Nat→List Value}:∀ n,(∀ j,j<n→g j=g' j)→flat g n=flat g' n
  |0,_=>rfl
  |n+1,h=>by rw[flat,flat,flat_congr n (fun j hj=>h j (by omega)),h n (by omega)]
theorem flat_split (g:Nat→List Value) (i:Nat):∀ n,i<n→∃ r,∀ x,flat (updL g i x) n=flat g i ++ x ++ r
  |0,h=>by omega
  | n + 1, h => by
    by_cases e:i=n
    · refine ⟨[], fun x => ?_⟩
      rw[flat,flat_congr (g:=updL g i x) (g':=g) n (fun j hj=>by unfold updL;rw[if_neg (by omega)]),e]
      simp[updL]
    · obtain ⟨r, hr⟩ := flat_split g i n (by omega)
      refine⟨r ++ g n,fun x=> ?_⟩
      rw[flat,hr x]
      unfold updL
      rw[if_neg (fun h'=>e h'.symm)]
      simp[List.append_assoc]
theorem updL_self (g:Nat→List Value) (i:Nat):updL g i (g i)=g:=by funext j;unfold updL;split<;>simp_all
theorem flat_take {g:Nat→List Value} {m:Nat} (h:∀ j,(g j).length=m) {i n:Nat} (hi:i<n):(flat g n).toArray.extract (m*i) (m*i+m)=(g i).toArray:=by
  obtain⟨r,hr⟩:=flat_split g i n hi
  have e:=hr (g i)
  rw[updL_self] at e
  have hl:=flat_length h i
  rw[e]
  simp only[List.extract_toArray]
  congr 1
  rw[List.extract_eq_take_drop]
  rw[show m*i+m - m*i=m by omega]
  rw[List.append_assoc,List.drop_append,List.drop_of_length_le (by omega),hl,Nat.sub_self,List.drop_zero,List.nil_append,List.take_append,← h i,List.take_length]
  simp
theorem flat_splice {g:Nat→List Value} {m:Nat} (h:∀ j,(g j).length=m) {i n:Nat} (hi:i<n) (x:List Value) (hx:x.length=m):splice (flat g n).toArray (m*i) x.toArray=(flat (updL g i x) n).toArray:=by
  obtain⟨r,hr⟩:=flat_split g i n hi
  have e:=hr (g i)
  rw[updL_self] at e
  have hl:=flat_length h i
  rw[hr x]
  unfold splice
  congr 1
  rw[show(flat g n).toArray.toList=flat g n from rfl,e]
  congr 1
  · congr 1
    rw[List.append_assoc,List.take_append,List.take_of_length_le (by omega),hl,Nat.sub_self,List.take_zero,List.append_nil]
  · rw [List.drop_append, List.drop_of_length_le (by simp [hl, h i, hx]), List.nil_append]
    simp[hl,h i,hx]
end Go.Calm
