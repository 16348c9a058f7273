/-
  A region that draws its order, walked in one order that the prover names: each operation is either TAKEN (it yields its value in every world in which the blocks that the region does not write hold what they hold) or the ONLY one that may come up.
-/
import Derived.Test.YtgjicjmihlcgkaaMem
import Derived.Test.YtgjicjmihlcgkaaMidArr
import Derived.OrdersHeld
namespace Go.Calm
open Go.RowKit
section
variable {P : Program} {ops : Array Oper} {Q : Exit → Act → World → Prop} {md : Region.Mode} {SS : World → Prop}

def walkH (P : Program) (ops : Array Oper) (Q : Exit → Act → World → Prop) (SS : World → Prop) : List (Nat × Bool) → Act → World → Prop
  | [], a, w => Q .normal a w
  | (i, true) :: r, a, w => ∃ o v, ops[i]? = some o ∧ YieldsIf P ops SS o v a ∧ walkH P ops Q SS r (a.put o.dst v) w
  | (i, false) :: r, a, w => wpOp P ops Q i (fun a' w' => SS w' ∧ walkH P ops Q SS r a' w') a w
def schedB (md : Region.Mode) (ops : Array Oper) : List (Nat × Bool) → Array Bool → Bool
  | [], listed => (Region.ready md ops listed).isEmpty
  | (i, true) :: r, listed => (Region.ready md ops listed).contains i && Region.free md ops listed i && schedB md ops r (listed.setIfInBounds i true)
  | (i, false) :: r, listed => decide (Region.ready md ops listed = [i]) && schedB md ops r (listed.setIfInBounds i true)

theorem wpAnyH_of_sched (hsel : Region.noSelect ops = true) (hQ : ∀ c (a : Act) (d : Option Tmp) (v : Value) (w : World), Q (.panic c) (a.put d v) w → Q (.panic c) a w) :
    ∀ (π : List (Nat × Bool)) (listed : Array Bool) (a : Act) (w : World), schedB md ops π listed = true → SS w → walkH P ops Q SS π a w → wpAnyH P md ops Q SS π.length listed a w
  | [], listed, a, w, hB, _, h => ⟨by simpa [schedB] using hB, h⟩
  | (i, true) :: r, listed, a, w, hB, hS, h => by
    simp only [schedB, Bool.and_eq_true] at hB
    obtain ⟨⟨hr, hf⟩, hB'⟩ := hB
    obtain ⟨o, v, hi, hy, hn⟩ := h
    exact wpAnyH_first hi (Region.noSelect_spec hsel) (fun c a w h => hQ c a o.dst v w h) r.length listed a w (Region.free_spec hi hf) (by simpa using hr) hy hS
      (wpAnyH_of_sched hsel hQ r _ _ w hB' hS hn)
  | (i, false) :: r, listed, a, w, hB, hS, h => by
    simp only [schedB, Bool.and_eq_true, decide_eq_true_eq] at hB
    refine ⟨fun h1 => (by rw [hB.1] at h1; cases h1), fun j hj => ?_⟩
    rw [hB.1] at hj
    have : j = i := by simpa using hj
    subst this
    exact wpOp_mono (fun a' w' h' => ⟨h'.1, wpAnyH_of_sched hsel hQ r _ a' w' hB.2 h'.1 h'.2⟩) h

/-- These blocks hold what they hold. -/
def Mem0 (L0 : List Blk) (w : World) : Prop := ∀ x ∈ L0, w.heap[x.b]? = some (.cells x.cs x.t (0, 0))
theorem St.mem0 {w0 W : World} {L L0 : List Blk} (S : St w0 W L) (h : ∀ x ∈ L0, x ∈ L) : Mem0 L0 W := fun x hx => S.has x (h x hx)

theorem region_sched {id : Nat} {a : Act} {w0 W : World} {L : List Blk} {l : List Oper} (S : St w0 W L) (π : List (Nat × Bool)) (L0 : List Blk) (hm : P.follows .mixedOrders = true)
    (hB : (Region.noSelect l.toArray && π.length == l.toArray.size && schedB .any l.toArray π (Array.replicate l.toArray.size false)) = true) (hsub : ∀ x ∈ L0, x ∈ L)
    (hQ : ∀ c (a : Act) (d : Option Tmp) (v : Value) (w : World), Q (.panic c) (a.put d v) w → Q (.panic c) a w)
    (h : St w0 W.drew L → walkH P l.toArray Q (Mem0 L0) π a W.drew) : (Code.region id l.toArray true).wp P Q a W := by
  simp only [Bool.and_eq_true, beq_iff_eq] at hB
  obtain ⟨⟨h1, h2⟩, h3⟩ := hB
  refine wp_region_any hm (wpAny_of_held (S := Mem0 L0) _ _ _ _ ?_)
  have := wpAnyH_of_sched (md := .any) h1 hQ π _ a W.drew h3 (S.drew.mem0 hsub) (h S.drew)
  rw [h2] at this
  exact this

variable {r : List (Nat × Bool)} {i : Nat} {o : Oper} {a : Act} {w0 W : World} {L L0 : List Blk}
theorem wh_nil (h : Q .normal a W) : walkH P ops Q SS [] a W := h
/-- Taken: a value in every world. -/
theorem wh_val {v : Value} (hi : ops[i]? = some o) (hw : Region.wanted o (yielded ops a.tmps) = true) (hv : ∀ w, (execOp a.eval o).run P w = .ok (.value v) w)
    (h : walkH P ops Q SS r (a.put o.dst v) W) : walkH P ops Q SS ((i, true) :: r) a W := ⟨o, v, hi, .inl ⟨hw, fun w _ => hv w⟩, h⟩
/-- Taken: a whole variable that the region does not write. -/
theorem wh_load {ty : TypeId} {x : Operand} {b : Nat} {cs : Array Value} {t : TypeId} {k : Nat} (hi : ops[i]? = some o) (hw : Region.wanted o (yielded ops a.tmps) = true) (ho : o.op = .load ty x) (hx : a.eval x = .pointer (some ⟨b, 0, none⟩)) (hm : ⟨b, cs, t⟩ ∈ L0)
    (T : AggT P ty k) (hk : k = cs.size) (h : walkH P ops Q (Mem0 L0) r (a.put o.dst (.agg cs)) W) : walkH P ops Q (Mem0 L0) ((i, true) :: r) a W :=
  ⟨o, .agg cs, hi, .inl ⟨hw, fun w hS => by
    unfold execOp
    simp only [ho, hx, Instr.loadAt, Instr.sureAddr, Sem.run_bind, Sem.run_pure, Result.andThen_ok, T.load w b t cs (hS _ hm) hk]⟩, h⟩
theorem wh_loadE {ty : TypeId} {x : Operand} {b j : Nat} {cs : Array Value} {t : TypeId} {v : Value} (hi : ops[i]? = some o) (hw : Region.wanted o (yielded ops a.tmps) = true) (ho : o.op = .load ty x) (hx : a.eval x = .pointer (some ⟨b, j, none⟩)) (hm : ⟨b, cs, t⟩ ∈ L0) (hv : cs[j]? = some v)
    (T : OneT P ty) (h : walkH P ops Q (Mem0 L0) r (a.put o.dst v) W) : walkH P ops Q (Mem0 L0) ((i, true) :: r) a W :=
  let ⟨d, hu, hd⟩ := T.one
  ⟨o, v, hi, .inl ⟨hw, fun w hS => by
    unfold execOp
    simp only [ho, hx, Instr.loadAt, Instr.sureAddr, Sem.run_bind, Sem.run_pure, Result.andThen_ok, run_loadVar_one w b j t ty cs d v (hS _ hm) hv hu hd]⟩, h⟩
/-- The only one that may come up: run it here. -/
theorem wh_only (hi : ops[i]? = some o) (hw : Region.wanted o (yielded ops a.tmps) = true) (h : o.wp P a W (fun a' w' => SS w' ∧ walkH P ops Q SS r a' w') Q) : walkH P ops Q SS ((i, false) :: r) a W := by
  unfold walkH wpOp
  simp only [hi, hw, if_true]
  exact .inl h
theorem whB_val (S : St w0 W L) (hsub : ∀ x ∈ L0, x ∈ L) {v : Value} (hi : ops[i]? = some o) (hw : Region.wanted o (yielded ops a.tmps) = true) (hv : ∀ w, (execOp a.eval o).run P w = .ok (.value v) w)
    (h : walkH P ops Q (Mem0 L0) r (a.put o.dst v) W) : walkH P ops Q (Mem0 L0) ((i, false) :: r) a W :=
  wh_only hi hw (by unfold Oper.wp; rw [hv W]; exact ⟨S.mem0 hsub, h⟩)
theorem whB_load (S : St w0 W L) (hsub : ∀ x ∈ L0, x ∈ L) {ty : TypeId} {x : Operand} {b : Nat} {cs : Array Value} {t : TypeId} {k : Nat} (hi : ops[i]? = some o) (hw : Region.wanted o (yielded ops a.tmps) = true) (ho : o.op = .load ty x) (hx : a.eval x = .pointer (some ⟨b, 0, none⟩)) (hm : ⟨b, cs, t⟩ ∈ L)
    (T : AggT P ty k) (hk : k = cs.size) (h : walkH P ops Q (Mem0 L0) r (a.put o.dst (.agg cs)) W) : walkH P ops Q (Mem0 L0) ((i, false) :: r) a W :=
  wh_only hi hw (by
    unfold Oper.wp execOp
    simp only [ho, hx, Instr.loadAt, Instr.sureAddr, Sem.run_bind, Sem.run_pure, Result.andThen_ok, T.load W b t cs (S.has _ hm) hk]
    exact ⟨S.mem0 hsub, h⟩)
theorem whB_store (S : St w0 W L) {ty : TypeId} {x y : Operand} {b : Nat} {cs old : Array Value} {t : TypeId} {k : Nat} (hi : ops[i]? = some o) (hw : Region.wanted o (yielded ops a.tmps) = true) (ho : o.op = .store ty x y) (hx : a.eval x = .pointer (some ⟨b, 0, none⟩)) (hy : a.eval y = .agg cs) {L' : List Blk} (hm : Foc L b old t cs L')
    (T : AggT P ty k) (hk : k = cs.size) (hold : k = old.size) (h1 : cs.all (·.oneCell') = true) (hsub : ∀ x ∈ L0, x ∈ L')
    (h : ∀ W', St w0 W' L' → walkH P ops Q (Mem0 L0) r (a.put o.dst undef) W') : walkH P ops Q (Mem0 L0) ((i, false) :: r) a W :=
  wh_only hi hw (wp_store_row ty x y ho b cs hx hy t old (S.has _ hm.mem) (by rw [T.size, hk]) (by rw [← hold, hk]) h1 ⟨(S.storeF hm).mem0 hsub, h _ (S.storeF hm)⟩)
theorem whB_call (S : St w0 W L) (hsub : ∀ x ∈ L0, x ∈ L) {f : FuncId} {as : Array Operand} {ts : Array TypeId} {args : Array Value} {v : Value} (hi : ops[i]? = some o) (hw : Region.wanted o (yielded ops a.tmps) = true) (_ho : o.op = .call { callee := .value (.func f), args := as, argTypes := ts }) (hr : ∀ w, (execOp a.eval o).run P w = .ok (.enter f args) w)
    (hc : ∀ w, Calls P f args w (fun e w'' => e = .returned v ∧ Below w.heap.size w w''))
    (h : ∀ W', St w0 W' L → walkH P ops Q (Mem0 L0) r (a.put o.dst v) W') : walkH P ops Q (Mem0 L0) ((i, false) :: r) a W :=
  wh_only hi hw (by
    unfold Oper.wp
    rw [hr W]
    simp only [Oper.upon]
    exact (hc W).mono fun e w'' ⟨he, hb⟩ => by subst he; exact ⟨(S.call hb).mem0 hsub, h _ (S.call hb)⟩)
end
end Go.Calm
