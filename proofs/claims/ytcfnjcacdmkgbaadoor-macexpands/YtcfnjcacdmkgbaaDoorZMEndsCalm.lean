/-
  A region that draws its order,whose operations read,call (callees that make memory and leave all that is there as it is) and make new variables,with stores at its end that wait for all else:ONE WALK,IN THE ORDER OF THE TEXT,SERVES EVERY ORDER.
  The quiet walk of the kit,with 'what was there stays' in the place of 'the world stays',new variables at whatever time,and a forced tail.
-/
import Derived.Still
import Derived.StillTail
import Derived.Below
import Derived.Laws.World
namespace Go
end Go
namespace Go.Calm
open Go.RowKit
section
variable {P:Program} {ops:Array Oper} {md:Region.Mode} {W:World}

def upon (P:Program) (w:World) (v:Value):Result Next→Prop
  | .ok (.value u) w'=>w'=w∧u=v
  | .ok .skip w'=>w'=w∧v=undef
  | .ok (.enter f args) w'=>w'=w∧Calls P f args w (fun e w''=>e= .returned v∧Below w.heap.size w w'')
  |_=>False

def yieldsAt (P:Program) (W:World) (o:Oper) (a:Act) (v:Value):Prop:=∀ w,Below W.heap.size W w→upon P w v ((execOp a.eval o).run P w)
def step (P:Program) (W:World) (o:Oper) (a:Act) (next:Act→Prop):Prop:=∃ v,yieldsAt P W o a v∧next (a.put o.dst v)


def cOp (P:Program) (ops:Array Oper) (W:World) (al:List (Nat×Tmp)) (i:Nat) (K:Act→Prop) (a:Act):Prop:=
  if (al.map Prod.fst).contains i=true then K a else
  match ops[i]? with
  |none=>K a
  |some o=>if Region.wanted o (yielded ops a.tmps) then step P W o a K else K (a.put o.dst undef)

theorem step_mono {o:Oper} {a:Act} {K K':Act→Prop} (h:∀ a,K a→K' a) (hh:step P W o a K):step P W o a K':=
  let ⟨v,h1,h2⟩:=hh
  ⟨v,h1,h _ h2⟩

theorem cOp_mono {al:List (Nat×Tmp)} {i:Nat} {a:Act} {K K':Act→Prop} (h:∀ a,K a→K' a) (hh:cOp P ops W al i K a):cOp P ops W al i K' a:=by
  unfold cOp at*
  split
  · rename_i hc;simp only[hc,if_true] at hh;exact h _ hh
  · rename_i hc
    simp only[hc] at hh
    split
    · rename_i ho;simp only[ho] at hh;exact h _ hh
    · rename_i o ho
      simp only[ho] at hh
      split
      · rename_i hw;simp only[hw,if_true] at hh;exact step_mono h hh
      · rename_i hw;simp only[hw] at hh;exact h _ hh

def Yields (P:Program) (ops:Array Oper) (W:World) (o:Oper) (v:Value) (a:Act):Prop:=
  (Region.wanted o (yielded ops a.tmps)=true∧yieldsAt P W o a v)∨(Region.wanted o (yielded ops a.tmps)=false∧v=undef)

theorem Yields.cOp {al:List (Nat×Tmp)} {i:Nat} {o:Oper} {v:Value} {a:Act} (hal:(al.map Prod.fst).contains i=false) (hi:ops[i]? =some o) (hy:Yields P ops W o v a) {K:Act→Prop} (h:K (a.put o.dst v)):Calm.cOp P ops W al i K a:=by
  unfold Calm.cOp
  simp only[hal,hi]
  rcases hy with⟨hw,hv⟩|⟨hw,rfl⟩
  · simp only[hw,if_true];exact⟨v,hv,h⟩
  · simp only[hw,Bool.false_eq_true,if_false];exact h

theorem Yields.of_same {o:Oper} {v:Value} {a a':Act} (hy:Yields P ops W o v a) (he:execOp a'.eval o=execOp a.eval o)
    (hw:Region.wanted o (yielded ops a'.tmps)=Region.wanted o (yielded ops a.tmps)):Yields P ops W o v a':=by
  unfold Yields yieldsAt at*
  rw[he,hw]
  exact hy

theorem yields_of_cOp {al:List (Nat×Tmp)} {i:Nat} {o:Oper} {a:Act} {K:Act→Prop} (hal:(al.map Prod.fst).contains i=false) (hi:ops[i]? =some o) (h:cOp P ops W al i K a):∃ v,Yields P ops W o v a∧K (a.put o.dst v):=by
  unfold cOp at h
  simp only[hal,hi] at h
  by_cases hw:Region.wanted o (yielded ops a.tmps)=true
  · simp only [hw, if_true] at h
    obtain⟨v,h1,h2⟩:=h
    exact⟨v,.inl ⟨hw,h1⟩,h2⟩
  · simp only [hw] at h
    exact⟨undef,.inr ⟨by simpa using hw,rfl⟩,h⟩

theorem cOp_put {al:List (Nat×Tmp)} {j:Nat} {oi oj:Oper} {v:Value} (hal:(al.map Prod.fst).contains j=false) (hj:ops[j]? =some oj) (hap:oi.apart ops oj=true)
    (hsi:∀ cs b,oi.op≠ .select cs b) (hsj:∀ cs b,oj.op≠ .select cs b) {K:Act→Prop} {a:Act}
    (hy:Yields P ops W oi v a) (h:cOp P ops W al j K (a.put oi.dst v)):
    cOp P ops W al j (fun a'=>Yields P ops W oi v a'∧K (a'.put oi.dst v)) a:=by
  obtain⟨h1,h2,h3⟩:=Oper.apart_spec hap
  have keep:∀(a:Act),Yields P ops W oi v a→∀ u,Yields P ops W oi v (a.put oj.dst u):=fun a hy u=>
    hy.of_same (execOp_put oi hsi a oj.dst u h3) (wanted_put oi a oj.dst u h3)
  unfold cOp at*
  simp only[hal,hj] at*
  rw[wanted_put oj a oi.dst v h1] at h
  split
  · rename_i hc;simp at hc
  · split
    · rename_i hw
      simp only[hw,if_true] at h
      obtain⟨u,hu,hn⟩:=h
      refine⟨u,fun w hw'=> ?_,keep a hy u,by rw[← Act.put_comm a v u h2];exact hn⟩
      have:=hu w hw'
      rwa[execOp_put oj hsj a oi.dst v h1] at this
    · rename_i hw
      simp only[hw] at h
      exact⟨keep a hy _,by rw[← Act.put_comm a v undef h2];exact h⟩

def anyHead (P : Program) (md : Region.Mode) (ops : Array Oper) (W : World) (al : List (Nat × Tmp)) (n : Nat) (L : Array Bool → Act → Prop) : Nat → Array Bool → Act → Prop
  |0,listed,a=>L listed a
  | f + 1, listed, a =>
    Region.ready md ops listed≠ []∧∀ i ∈ Region.ready md ops listed,i<n∧cOp P ops W al i (anyHead P md ops W al n L f (listed.setIfInBounds i true)) a

def tailWaits (md:Region.Mode) (ops:Array Oper) (n:Nat):Prop:=
  ∀ listed i,HeadInv md ops n listed→i<n→listed.getD i true=false→∀ t,n≤t→t ∉ Region.ready md ops listed

theorem tailWaits_of (n:Nat) (h:(n == ops.size || (decide (n<ops.size) && Region.sinkB md ops n && Region.chainB md ops n))=true):tailWaits md ops n:=by
  intro listed i inv hi hun t ht
  simp only[Bool.or_eq_true,Bool.and_eq_true,decide_eq_true_eq,beq_iff_eq] at h
  rcases h with h|⟨⟨h1,h2⟩,h3⟩
  · intro hr
    obtain⟨_,o,ho,_⟩:=mem_ready.1 hr
    have:=(Array.getElem?_eq_some_iff.1 ho).1
    omega
  · exact tail_waits h2 h3 h1 inv _ i rfl hi hun t ht

theorem anyHead_first {al : List (Nat × Tmp)} {n i : Nat} {oi : Oper} {v : Value} {L : Array Bool → Act → Prop} (hal : (al.map Prod.fst).contains i = false) (hi : ops[i]? = some oi) (hsel : ∀ (j : Nat) (o : Oper) cs b, ops[j]? = some o → o.op ≠ .select cs b)
    (htw:tailWaits md ops n) (hin:i<n)
    (hdone:∀ listed a,L listed a→∀ j ∈ Region.ready md ops listed,n≤j):
    ∀ (f : Nat) (listed : Array Bool) (a : Act), HeadInv md ops n listed →
      (∀ j oj,ops[j]? =some oj→j≠i→listed.getD j true=false→(∀ e ∈ oj.after,Region.binds md e=true→e.on≠i)→oi.apart ops oj=true)→
      i ∈ Region.ready md ops listed→Yields P ops W oi v a→
      anyHead P md ops W al n L f (listed.setIfInBounds i true) (a.put oi.dst v)→anyHead P md ops W al n L (f+1) listed a:=by
  intro f
  induction f with
  | zero =>
    intro listed a inv _ hr hy H
    have hun:=(mem_ready.1 hr).1
    refine⟨fun h=>(by rw[h] at hr;cases hr),fun j hj=> ?_⟩
    have hjn:j<n:=by
      rcases Nat.lt_or_ge j n with h|h
      · exact h
      · exact absurd hj (htw _ i inv hin hun j h)
    refine⟨hjn,?_⟩
    by_cases hji:j=i
    · subst hji;exact hy.cOp hal hi H
    · have := hdone _ _ H j (ready_mono hj hji)
      omega
  | succ f ih =>
    intro listed a inv hfree hr hy H
    have hun:=(mem_ready.1 hr).1
    refine⟨fun h=>(by rw[h] at hr;cases hr),fun j hj=> ?_⟩
    have hjn:j<n:=by
      rcases Nat.lt_or_ge j n with h|h
      · exact h
      · exact absurd hj (htw _ i inv hin hun j h)
    refine⟨hjn,?_⟩
    by_cases hji:j=i
    · subst hji;exact hy.cOp hal hi H
    · have h1 := (H.2 j (ready_mono hj hji)).2
      obtain⟨hjun,oj,hoj,hall⟩:=mem_ready.1 hj
      have hnot:∀ e ∈ oj.after,Region.binds md e=true→e.on≠i:=fun e he hb heq=>by
        have h1:=hall e he hb
        rw[heq,getD_both hun] at h1
        cases h1
      have hfree' : ∀ k ok, ops[k]? = some ok → k ≠ i → (listed.setIfInBounds j true).getD k true = false →
          (∀ e ∈ ok.after,Region.binds md e=true→e.on≠i)→oi.apart ops ok=true:=fun k ok hk hki hun hno=>by
        refine hfree k ok hk hki ?_ hno
        by_cases hjk:j=k
        · subst hjk;exact hjun
        · rw[getD_set_ne true hjk] at hun;exact hun
      have fin:∀ a',Yields P ops W oi v a'→anyHead P md ops W al n L f ((listed.setIfInBounds i true).setIfInBounds j true) (a'.put oi.dst v)→anyHead P md ops W al n L (f+1) (listed.setIfInBounds j true) a':=fun a' hy' hH=>by
        refine ih (listed.setIfInBounds j true) a' (inv.set hj hjn) hfree' (ready_mono hr (Ne.symm hji)) hy' ?_
        rw[Array.setIfInBounds_comm _ _ hji]
        exact hH
      cases hjal:(al.map Prod.fst).contains j with
      | true =>
        unfold cOp at h1 ⊢
        rw[if_pos hjal] at h1 ⊢
        exact fin a hy h1
      | false =>
        have h2:=cOp_put hjal hoj (hfree j oj hoj hji hjun hnot) (fun cs b=>hsel i oi cs b hi) (fun cs b=>hsel j oj cs b hoj) hy h1
        exact cOp_mono (fun a' h3=>fin a' h3.1 h3.2) h2

theorem anyHead_new {al:List (Nat×Tmp)} {n i:Nat} {L:Array Bool→Act→Prop} (hal:(al.map Prod.fst).contains i=true)
    (htw:tailWaits md ops n) (hin:i<n)
    (hdone:∀ listed a,L listed a→∀ j ∈ Region.ready md ops listed,n≤j):
    ∀ (f : Nat) (listed : Array Bool) (a : Act), HeadInv md ops n listed → i ∈ Region.ready md ops listed →
      anyHead P md ops W al n L f (listed.setIfInBounds i true) a→anyHead P md ops W al n L (f+1) listed a:=by
  intro f
  induction f with
  | zero =>
    intro listed a inv hr H
    have hun:=(mem_ready.1 hr).1
    refine⟨fun h=>(by rw[h] at hr;cases hr),fun j hj=> ?_⟩
    have hjn:j<n:=by
      rcases Nat.lt_or_ge j n with h|h
      · exact h
      · exact absurd hj (htw _ i inv hin hun j h)
    refine⟨hjn,?_⟩
    by_cases hji:j=i
    · subst hji;unfold cOp;rw[if_pos hal];exact H
    · have := hdone _ _ H j (ready_mono hj hji)
      omega
  | succ f ih =>
    intro listed a inv hr H
    have hun:=(mem_ready.1 hr).1
    refine⟨fun h=>(by rw[h] at hr;cases hr),fun j hj=> ?_⟩
    have hjn:j<n:=by
      rcases Nat.lt_or_ge j n with h|h
      · exact h
      · exact absurd hj (htw _ i inv hin hun j h)
    refine⟨hjn,?_⟩
    by_cases hji:j=i
    · subst hji;unfold cOp;rw[if_pos hal];exact H
    · refine cOp_mono (fun a' h3 => ih (listed.setIfInBounds j true) a' (inv.set hj hjn) (ready_mono hr (Ne.symm hji)) ?_) (H.2 j (ready_mono hj hji)).2
      rw[Array.setIfInBounds_comm _ _ hji]
      exact h3

def walkR (P:Program) (ops:Array Oper) (W:World) (al:List (Nat×Tmp)) (Q:Act→Prop):Nat→List Oper→Act→Prop
  |_,[],a=>Q a
  | k, o :: rest, a => if (al.map Prod.fst).contains k then walkR P ops W al Q (k + 1) rest a else
      if Region.wanted o (yielded ops a.tmps) then step P W o a (walkR P ops W al Q (k+1) rest) else walkR P ops W al Q (k+1) rest (a.put o.dst undef)

theorem anyHead_lex {al : List (Nat × Tmp)} {n g : Nat} {Lq : Act → Prop} (hsel : Region.noSelect ops = true) (htw : tailWaits md ops n) :
    ∀(l:List Oper) (k:Nat) (listed:Array Bool) (a:Act),(∀ j,j<l.length→l[j]? =ops[k+j]?)→k+l.length=n→HeadInv md ops n listed→
    Region.lexHead md ops g l.length k listed=true→walkR P ops W al Lq k l a→
    anyHead P md ops W al n (fun listed' a'=>Region.seqB md ops g n listed'=true∧Lq a') l.length listed a
  | [], k, listed, a, _, hk, _, hB, h => by
    have:k=n:=by simpa using hk
    subst this
    exact⟨by simpa[Region.lexHead] using hB,h⟩
  | o :: l, k, listed, a, hl, hk, inv, hB, h => by
    have h0:ops[k]? =some o:=by simpa using(hl 0 (by simp)).symm
    simp only[List.length_cons,Region.lexHead,Bool.and_eq_true] at hB
    obtain⟨⟨hr,hf⟩,hB'⟩:=hB
    have hkn:k<n:=by simp only[List.length_cons] at hk;omega
    have hr':k ∈ Region.ready md ops listed:=by simpa using hr
    have hl':∀ j,j<l.length→l[j]? =ops[k+1+j]? :=fun j hj=>by have:=hl (j+1) (by simp;omega);simpa[Nat.add_assoc,Nat.add_comm 1 j] using this
    have hk':k+1+l.length=n:=by simp only[List.length_cons] at hk;omega
    cases hal:(al.map Prod.fst).contains k with
    | true =>
      unfold walkR at h
      rw[if_pos hal] at h
      exact anyHead_new hal htw hkn (fun listed' a' hL=>seqB_ready hL.1) l.length listed a inv hr' (anyHead_lex hsel htw l (k+1) _ _ hl' hk' (inv.set hr' hkn) hB' h)
    | false =>
      have hst:cOp P ops W al k (walkR P ops W al Lq (k+1) l) a:=by
        unfold walkR at h;unfold cOp;rw[hal] at h ⊢; simp only[h0];exact h
      obtain⟨v,hy,hK⟩:=yields_of_cOp hal h0 hst
      exact anyHead_first hal h0 (Region.noSelect_spec hsel) htw hkn (fun listed' a' hL=>seqB_ready hL.1) l.length listed a inv (Region.free_spec h0 hf) hr' hy
        (anyHead_lex hsel htw l (k+1) _ _ hl' hk' (inv.set hr' hkn) hB' hK)

/-! ### The new variables -/
def ptr (b:Nat):Value:= .pointer (some ⟨b,0,none⟩)
def puts (listed:Array Bool) (β:Tmp→Nat):List (Nat×Tmp)→Act→Act
  | [],a=>a
  |x :: r,a=>if listed.getD x.1 false then(puts listed β r a).put (some x.2) (ptr (β x.2)) else puts listed β r a

theorem puts_put {listed:Array Bool} {β:Tmp→Nat} (d:Option Tmp) (v:Value):∀(al:List (Nat×Tmp)) (a:Act),(∀ x ∈ al,d≠some x.2)→(puts listed β al a).put d v=puts listed β al (a.put d v)
  | [],_,_=>rfl
  | x :: r, a, h => by
    have ih:=puts_put (listed:=listed) (β:=β) d v r a (fun y hy=>h y (List.mem_cons_of_mem _ hy))
    have hx:=h x List.mem_cons_self
    unfold puts
    split
    · rw[Act.put_comm _ (ptr (β x.2)) v (fun e he=>by cases he;exact hx),ih]
    · exact ih
theorem puts_set {listed:Array Bool} {β:Tmp→Nat} (j:Nat):∀(al:List (Nat×Tmp)) (a:Act),(∀ x ∈ al,j≠x.1)→puts (listed.setIfInBounds j true) β al a=puts listed β al a
  | [],_,_=>rfl
  | x :: r, a, h => by
    have ih:=puts_set (listed:=listed) (β:=β) j r a (fun y hy=>h y (List.mem_cons_of_mem _ hy))
    unfold puts
    rw[getD_set_ne false (h x List.mem_cons_self),ih]
theorem puts_fn {listed:Array Bool} {β β':Tmp→Nat}:∀(al:List (Nat×Tmp)) (a:Act),(∀ x ∈ al,β x.2=β' x.2)→puts listed β al a=puts listed β' al a
  | [],_,_=>rfl
  | x :: r, a, h => by
    have ih:=puts_fn (listed:=listed) r a (fun y hy=>h y (List.mem_cons_of_mem _ hy))
    unfold puts
    rw[ih,h x List.mem_cons_self]
def upd (β:Tmp→Nat) (d:Tmp) (b:Nat):Tmp→Nat:=fun t=>if t=d then b else β t
theorem puts_new {listed : Array Bool} {β : Tmp → Nat} (i : Nat) (d : Tmp) (b : Nat) (hsz : i < listed.size) (hun : listed.getD i false = false) : ∀ (al : List (Nat × Tmp)) (a : Act), (al.map Prod.fst).Nodup → (al.map Prod.snd).Nodup → (i, d) ∈ al →
    (puts listed β al a).put (some d) (ptr b)=puts (listed.setIfInBounds i true) (upd β d b) al a
  | [],_,_,_,h=>by cases h
  | x :: r, a, h1, h2, h => by
    simp only[List.map_cons,List.nodup_cons] at h1 h2
    rcases List.mem_cons.1 h with hx|hx
    · subst hx
      have hd:∀ y ∈ r,(some d:Option Tmp)≠some y.2:=fun y hy e=>h2.1 (by simp only[Option.some.injEq] at e;rw[e];exact List.mem_map.2 ⟨y,hy,rfl⟩)
      have hi:∀ y ∈ r,i≠y.1:=fun y hy e=>h1.1 (by show i ∈ r.map Prod.fst;rw[e];exact List.mem_map.2 ⟨y,hy,rfl⟩)
      unfold puts
      have e1:(listed.setIfInBounds i true).getD i false=true:=by simp[hsz]
      rw[if_neg (by simp only[hun];decide),if_pos e1,puts_set i r a hi]
      rw[puts_fn (β:=upd β d b) (β':=β) r a (fun y hy=>by unfold upd;rw[if_neg (fun e=>hd y hy (by rw[e]))])]
      simp[upd]
    · have hdx : x.2 ≠ d := fun e => h2.1 (by rw [e]; exact List.mem_map.2 ⟨_, hx, rfl⟩)
      have hix:i≠x.1:=fun e=>h1.1 (by rw[← e];exact List.mem_map.2 ⟨_,hx,rfl⟩)
      have ih:=puts_new (β:=β) i d b hsz hun r a h1.2 h2.2 hx
      unfold puts
      rw[getD_set_ne false hix]
      split
      · rw [Act.put_comm _ (ptr (β x.2)) (ptr b) (fun e he => by cases he; intro h'; exact hdx (by cases h'; rfl)), ih]
        unfold upd;rw[if_neg hdx]
      · exact ih

theorem exec_puts {listed:Array Bool} {β:Tmp→Nat} (o:Oper) (hs:∀ cs b,o.op≠ .select cs b):∀(al:List (Nat×Tmp)) (a:Act),(∀ x ∈ al,x.2 ∉ o.looksAt ops)→
    execOp (puts listed β al a).eval o=execOp a.eval o∧Region.wanted o (yielded ops (puts listed β al a).tmps)=Region.wanted o (yielded ops a.tmps)
  | [],_,_=>⟨rfl,rfl⟩
  | x :: r, a, h => by
    obtain⟨i1,i2⟩:=exec_puts (listed:=listed) (β:=β) o hs r a (fun y hy=>h y (List.mem_cons_of_mem _ hy))
    have hx:∀ d,some x.2=some d→d ∉ o.looksAt ops:=fun d e=>by cases e;exact h x List.mem_cons_self
    unfold puts
    split
    · exact⟨by rw[execOp_put o hs _ _ _ hx,i1],by rw[wanted_put o _ _ _ hx,i2]⟩
    · exact⟨i1,i2⟩

def newB (ops : Array Oper) (n : Nat) (al : List (Nat × Tmp)) : Bool :=
  decide ((al.map Prod.fst).Nodup) && decide ((al.map Prod.snd).Nodup) &&
  al.all (fun x=>decide (x.1<n) && (match ops[x.1]? with|some o=>o.dst == some x.2 && o.guard.isNone|none=>false)) &&
  (List.range n).all fun j=>(al.map Prod.fst).contains j || match ops[j]? with
    |some o=>al.all fun x=>o.dst != some x.2 && !(o.looksAt ops).contains x.2
    |none=>true

def Made (W:World) (obj:Tmp→Obj) (al:List (Nat×Tmp)) (listed:Array Bool) (β:Tmp→Nat) (w:World):Prop:=
  Below W.heap.size W w∧(∀ x ∈ al,listed.getD x.1 false=true→W.heap.size≤β x.2∧w.heap[β x.2]? =some (obj x.2))∧
  (∀ x ∈ al,∀ y ∈ al,listed.getD x.1 false=true→listed.getD y.1 false=true→x.2≠y.2→β x.2≠β y.2)

theorem key_fst:∀(al:List (Nat×Tmp)),(al.map Prod.fst).Nodup→∀ x ∈ al,∀ y ∈ al,x.1=y.1→x=y
  | [],_,_,h,_,_,_=>by cases h
  | z :: r, nd, x, hx, y, hy, e => by
    simp only[List.map_cons,List.nodup_cons] at nd
    rcases List.mem_cons.1 hx with hx|hx<;>rcases List.mem_cons.1 hy with hy|hy
    · rw[hx,hy]
    · exact absurd (List.mem_map.2 ⟨y,hy,by rw[← e,hx]⟩) nd.1
    · exact absurd (List.mem_map.2 ⟨x,hx,by rw[e,hy]⟩) nd.1
    · exact key_fst r nd.2 x hx y hy e

theorem lt_of_heap {w:World} {b:Nat} {o:Obj} (h:w.heap[b]? =some o):b<w.heap.size:=(Array.getElem?_eq_some_iff.1 h).1

theorem Below.all_trans {W w w':World} (h:Below W.heap.size W w) (k:Below w.heap.size w w'):Below W.heap.size W w':=h.trans (k.mono h.size)

theorem wpAny_of_anyHead {n g : Nat} {al : List (Nat × Tmp)} {obj : Tmp → Obj} {L : Array Bool → Act → Prop} {Q' : Exit → Act → World → Prop} (hsel : Region.noSelect ops = true) (hnB : newB ops n al = true) (hn : n ≤ ops.size)
    (hnew:∀ x ∈ al,∀ o,ops[x.1]? =some o→∀(a:Act) (w:World),(execOp a.eval o).run P w= .ok (.value (ptr w.heap.size)) (w.alloc (obj x.2)))
    (hL:∀ listed a β w,L listed a→listed.size=ops.size→Made W obj al listed β w→wpAny P md ops Q' g listed (puts listed β al a) w):
    ∀(f:Nat) (listed:Array Bool) (a:Act) (β:Tmp→Nat) (w:World),listed.size=ops.size→Made W obj al listed β w→anyHead P md ops W al n L f listed a→wpAny P md ops Q' (f+g) listed (puts listed β al a) w
  |0,listed,a,β,w,hz,hM,h=>by rw[Nat.zero_add];exact hL _ _ _ _ h hz hM
  | f + 1, listed, a, β, w, hz, hM, h => by
    rw[show f+1+g=(f+g)+1 by omega]
    refine⟨fun h0=>absurd h0 h.1,fun i hi=> ?_⟩
    obtain⟨hin,hc⟩:=h.2 i hi
    have IH:=wpAny_of_anyHead hsel hnB hn hnew hL f (listed.setIfInBounds i true)
    have hz':(listed.setIfInBounds i true).size=ops.size:=by simpa using hz
    obtain⟨hun,oi,hoi,_⟩:=mem_ready.1 hi
    have hisz:i<listed.size:=by rw[hz];omega
    simp only[newB,Bool.and_eq_true,decide_eq_true_eq] at hnB
    obtain⟨⟨⟨nd1,nd2⟩,hown⟩,hoth⟩:=hnB
    unfold wpOp
    simp only[hoi]
    unfold cOp at hc
    cases hal:(al.map Prod.fst).contains i with
    | true =>
      rw[if_pos hal] at hc
      obtain⟨x,hx,hxi⟩:=List.mem_map.1 (List.contains_iff_mem.1 hal)
      obtain⟨x1,d⟩:=x
      simp only at hxi
      subst hxi
      have hxo:=List.all_eq_true.1 hown _ hx
      simp only[hoi,Bool.and_eq_true,beq_iff_eq,Option.isNone_iff_eq_none] at hxo
      obtain⟨_,hdst,hgd⟩:=hxo
      have hwt:Region.wanted oi (yielded ops (puts listed β al a).tmps)=true:=by simp[Region.wanted,hgd]
      rw[if_pos hwt]
      refine .inl ?_
      unfold Oper.wp
      rw[hnew _ hx oi hoi]
      simp only[Oper.upon,hdst]
      rw[puts_new x1 d w.heap.size hisz (getD_both hun) al a nd1 nd2 hx]
      refine IH a (upd β d w.heap.size) (w.alloc (obj d)) hz' ?_ hc
      obtain⟨m1,m2,m3⟩:=hM
      have sz:W.heap.size≤w.heap.size:=m1.size
      have hbk:∀ y ∈ al,y.2≠d→upd β d w.heap.size y.2=β y.2:=fun y _ hyd=>by unfold upd;rw[if_neg hyd]
      have hbd:upd β d w.heap.size d=w.heap.size:=by simp[upd]
      have hold:∀ y ∈ al,y.2≠d→(listed.setIfInBounds x1 true).getD y.1 false=true→listed.getD y.1 false=true:=fun y hy hyd hl=>by
        by_cases e:x1=y.1
        · exact absurd (by rw[← key_fst al nd1 _ hx y hy e]) hyd
        · rwa[getD_set_ne false e] at hl
      refine⟨m1.alloc sz _,fun y hy hl=> ?_,fun y hy z hz2 hl hl2 hne=> ?_⟩
      · by_cases hyd : y.2 = d
        · rw[hyd,hbd];exact⟨sz,by show(w.heap.push (obj d))[w.heap.size]? =_;simp⟩
        · rw [hbk y hy hyd]
          obtain⟨p1,p2⟩:=m2 y hy (hold y hy hyd hl)
          exact⟨p1,by rw[Below.heap_alloc w _ _ (lt_of_heap p2)];exact p2⟩
      · by_cases hyd : y.2 = d
        · by_cases hzd : z.2 = d
          · exact absurd (hyd.trans hzd.symm) hne
          · rw [hyd, hbd, hbk z hz2 hzd]
            have:=lt_of_heap (m2 z hz2 (hold z hz2 hzd hl2)).2
            omega
        · by_cases hzd : z.2 = d
          · rw [hzd, hbd, hbk y hy hyd]
            have:=lt_of_heap (m2 y hy (hold y hy hyd hl)).2
            omega
          · rw [hbk y hy hyd, hbk z hz2 hzd]
            exact m3 y hy z hz2 (hold y hy hyd hl) (hold z hz2 hzd hl2) hne
    | false =>
      rw[if_neg (by rw[hal];decide)] at hc
      simp only[hoi] at hc
      have hj:=List.all_eq_true.1 hoth i (List.mem_range.2 hin)
      rw[hal] at hj
      simp only[Bool.false_or,hoi,List.all_eq_true,Bool.and_eq_true,bne_iff_ne,ne_eq,Bool.not_eq_true',List.contains_eq_mem,decide_eq_false_iff_not] at hj
      obtain⟨x1,x2⟩:=exec_puts (ops:=ops) (listed:=listed) (β:=β) oi (fun cs b=>Region.noSelect_spec hsel i oi cs b hoi) al a (fun x hx=>(hj x hx).2)
      have hni:∀ x ∈ al,i≠x.1:=fun x hx e=>by
        have:(al.map Prod.fst).contains i=true:=List.contains_iff_mem.2 (List.mem_map.2 ⟨x,hx,e.symm⟩)
        rw[hal] at this;cases this
      have keepM : ∀ w', Below w.heap.size w w' → Made W obj al (listed.setIfInBounds i true) β w' := fun w' hb => by
        obtain⟨m1,m2,m3⟩:=hM
        refine⟨Below.all_trans m1 hb,fun y hy hl=> ?_,fun y hy z hz2 hl hl2 hne=> ?_⟩
        · rw [getD_set_ne false (hni y hy)] at hl
          obtain⟨p1,p2⟩:=m2 y hy hl
          exact⟨p1,by rw[hb.block _ (lt_of_heap p2)];exact p2⟩
        · rw [getD_set_ne false (hni y hy)] at hl
          rw[getD_set_ne false (hni z hz2)] at hl2
          exact m3 y hy z hz2 hl hl2 hne
      have next:∀ v w',Below w.heap.size w w'→anyHead P md ops W al n L f (listed.setIfInBounds i true) (a.put oi.dst v)→wpAny P md ops Q' (f+g) (listed.setIfInBounds i true) ((puts listed β al a).put oi.dst v) w':=fun v w' hb hh=>by
        have:=IH (a.put oi.dst v) β w' hz' (keepM w' hb) hh
        rw[puts_set i al _ hni,← puts_put oi.dst v al a (fun x hx=>(hj x hx).1)] at this
        exact this
      rw[x2]
      split
      · rename_i hw
        rw[if_pos hw] at hc
        obtain⟨v,hv,hK⟩:=hc
        refine .inl ?_
        have hv':=hv w hM.1
        unfold Oper.wp
        rw[x1]
        generalize(execOp a.eval oi).run P w=r at*
        cases r with
        | ok nx w' =>
          cases nx<;>simp only[upon] at hv'<;>simp only[Oper.upon]
          case value u=>
            obtain⟨e1,e2⟩:=hv'
            rw[e1,e2]
            exact next _ _ (Below.refl _ _) hK
          case skip=>
            obtain⟨e1,e2⟩:=hv'
            rw[e1,← e2]
            exact next _ _ (Below.refl _ _) hK
          case enter fn args=>
            obtain⟨e1,hcl⟩:=hv'
            rw[e1]
            exact hcl.mono fun e w'' ⟨he,hw''⟩=>by subst he;exact next _ _ hw'' hK
        |halt x w'=>simp only[upon] at hv'
      · rename_i hw
        rw[if_neg hw] at hc
        exact next _ _ (Below.refl _ _) hc

def calmB (md : Region.Mode) (ops : Array Oper) (n : Nat) (al : List (Nat × Tmp)) : Bool :=
  Region.noSelect ops && (n == ops.size || (decide (n<ops.size) && Region.sinkB md ops n && Region.chainB md ops n)) && newB ops n al &&
    Region.lexHead md ops (ops.size - n) n 0 (Array.replicate ops.size false)

def putAll (β:Tmp→Nat):List (Nat×Tmp)→Act→Act
  | [],a=>a
  |x :: r,a=>(putAll β r a).put (some x.2) (ptr (β x.2))
theorem puts_all {listed:Array Bool} {β:Tmp→Nat}:∀(al:List (Nat×Tmp)) (a:Act),(∀ x ∈ al,listed.getD x.1 false=true)→puts listed β al a=putAll β al a
  | [],_,_=>rfl
  | x :: r, a, h => by
    unfold puts putAll
    rw[if_pos (h x List.mem_cons_self),puts_all r a (fun y hy=>h y (List.mem_cons_of_mem _ hy))]

theorem all_listed {n g:Nat} {listed:Array Bool} (hB:Region.seqB md ops g n listed=true) (hz:listed.size=ops.size) (x:Nat) (hx:x<n) (hxs:x<ops.size) (hno:∀ o,ops[x]? =some o→o.after= #[]):listed.getD x false=true:=by
  cases h:listed.getD x false with
  |true=>rfl
  | false =>
    exfalso
    have hlt:x<listed.size:=by rw[hz];exact hxs
    have:x ∈ Region.ready md ops listed:=mem_ready.2 ⟨getD_in hlt h,ops[x],by simp[hxs],fun e he=>by
      rw[hno _ (by simp[hxs])] at he;simp at he⟩
    have:=seqB_ready hB x this
    omega

theorem wp_region {id:Nat} {Q:Exit→Act→World→Prop} {a:Act} {w:World} {l:List Oper} (n:Nat) (al:List (Nat×Tmp)) (obj:Tmp→Obj) (hm:P.follows .mixedOrders=true) (hB:calmB .any l.toArray n al=true)
    (hno:al.all (fun x=>match l[x.1]? with|some o=>o.after.size == 0|none=>false)=true)
    (hnew:∀ x ∈ al,∀ o,l[x.1]? =some o→∀(a:Act) (w:World),(execOp a.eval o).run P w= .ok (.value (ptr w.heap.size)) (w.alloc (obj x.2)))
    (h : walkR P l.toArray w.drew al (fun a' => ∀ (β : Tmp → Nat) (w' : World), Below w.heap.size w w' → (∀ x ∈ al, w.heap.size ≤ β x.2 ∧ w'.heap[β x.2]? = some (obj x.2)) → (∀ x ∈ al, ∀ y ∈ al, x.2 ≠ y.2 → β x.2 ≠ β y.2) →
      wpList P l.toArray Q (l.drop n) (putAll β al a') w') 0 (l.take n) a):(Code.region id l.toArray true).wp P Q a w:=by
  simp only[calmB,Bool.and_eq_true] at hB
  obtain⟨⟨⟨hsel,hw⟩,hnB⟩,hlex⟩:=hB
  have hn:n≤l.toArray.size:=by
    simp only[Bool.or_eq_true,Bool.and_eq_true,decide_eq_true_eq,beq_iff_eq] at hw
    rcases hw with h|⟨⟨h,_⟩,_⟩<;>omega
  have hn':n≤l.length:=by simpa using hn
  have htl:(l.take n).length=n:=by simp;omega
  have hdl:(l.drop n).length=l.toArray.size - n:=by simp
  have inv0:HeadInv .any l.toArray n (Array.replicate l.toArray.size false):=
    ⟨by simp,fun j oj _ hl=>(by rw[getD_replicate_false] at hl;cases hl),fun t _ ht=>getD_in (by simpa using ht) (getD_replicate_false _ _)⟩
  have H:=anyHead_lex (md:= .any) (g:=l.toArray.size - n) hsel (tailWaits_of n hw) (l.take n) 0 _ a (fun j hj=>by
    have hj':j<n:=by rw[htl] at hj;exact hj
    simp[hj']) (by simpa using htl) inv0 (by rw[htl];exact hlex) h
  refine wp_region_any hm ?_
  have hnB':=hnB
  simp only[newB,Bool.and_eq_true,decide_eq_true_eq] at hnB'
  have hlt:∀ x ∈ al,x.1<n:=fun x hx=>by
    have:=List.all_eq_true.1 hnB'.1.2 x hx
    simp only[Bool.and_eq_true,decide_eq_true_eq] at this
    exact this.1
  have := wpAny_of_anyHead (W := w.drew) (al := al) (obj := obj) (Q' := Q) (g := l.toArray.size - n) hsel hnB hn (fun x hx o ho => hnew x hx o (by simpa using ho)) (fun listed a' β w' hL hz hM => by
    have hall:∀ x ∈ al,listed.getD x.1 false=true:=fun x hx=>all_listed hL.1 hz x.1 (hlt x hx) (by have:=hlt x hx;omega) (fun o ho=>by
      have h1:=List.all_eq_true.1 hno x hx
      have ho':l[x.1]? =some o:=by simpa using ho
      simp only[ho',beq_iff_eq] at h1
      exact Array.eq_empty_of_size_eq_zero h1)
    rw[puts_all al a' hall]
    obtain⟨m1,m2,m3⟩:=hM
    have m1':Below w.heap.size w w':=⟨m1.os,m1.tape,m1.output,m1.size,m1.block⟩
    have:=wpAny_of_seq (md:= .any) (Q':=Q) (l.drop n) n listed (putAll β al a') w' (fun j=>by simp[List.getElem?_drop]) (by rw[hdl];exact hL.1) (hL.2 β w' m1' (fun x hx=>m2 x hx (hall x hx)) (fun x hx y hy hne=>m3 x hx y hy (hall x hx) (hall y hy) hne))
    rwa[hdl] at this) _ _ a (fun _=>0) w.drew (by simp) ⟨Below.refl _ _,fun x hx hl=>(by rw[getD_replicate_false] at hl;cases hl),fun x hx y hy hl=>(by rw[getD_replicate_false] at hl;cases hl)⟩ H
  have e0:puts (Array.replicate l.toArray.size false) (fun _=>0) al a=a:=by
    clear h H hnB hnB' hno hnew hlt hlex this
    induction al with
    |nil=>rfl
    |cons x r ih=>unfold puts;rw[if_neg (by rw[getD_replicate_false];decide)];exact ih
  rw[e0,htl,show n+(l.toArray.size - n)=l.toArray.size by omega] at this
  exact this
end
end Go.Calm
