import Derived.Test.YtcfnjcacdmkgbaaDoorZMEndsMem
import Derived.Test.YtcfnjcacdmkgbaaDoorZMEndsMidArr
import Derived.OrdersHeld
/-
  A region that draws its order,walked in one order that the prover names:each operation is either TAKEN (it yields its value in every world in which the blocks that the region does not write hold what they hold) or the ONLY one that may come up.
-/
namespace Go.Calm
open Go.RowKit
section
variable {P:Program} {ops:Array Oper} {Q:Exit→Act→World→Prop} {md:Region.Mode} {SS:World→Prop}

def walkH (P:Program) (ops:Array Oper) (Q:Exit→Act→World→Prop) (SS:World→Prop):List (Nat×Bool)→Act→World→Prop
  | [],a,w=>Q .normal a w
  |(i,true) :: r,a,w=>∃ o v,ops[i]? =some o∧YieldsIf P ops SS o v a∧walkH P ops Q SS r (a.put o.dst v) w
  |(i,false) :: r,a,w=>wpOp P ops Q i (fun a' w'=>SS w'∧walkH P ops Q SS r a' w') a w
def schedB (md:Region.Mode) (ops:Array Oper):List (Nat×Bool)→Array Bool→Bool
  | [],listed=>(Region.ready md ops listed).isEmpty
  |(i,true) :: r,listed=>(Region.ready md ops listed).contains i && Region.free md ops listed i && schedB md ops r (listed.setIfInBounds i true)
  |(i,false) :: r,listed=>decide (Region.ready md ops listed= [i]) && schedB md ops r (listed.setIfInBounds i true)

theorem wpAnyH_of_sched (hsel:Region.noSelect ops=true) (hQ:∀ c (a:Act) (d:Option Tmp) (v:Value) (w:World),Q (.panic c) (a.put d v) w→Q (.panic c) a w):
    ∀(π:List (Nat×Bool)) (listed:Array Bool) (a:Act) (w:World),schedB md ops π listed=true→SS w→walkH P ops Q SS π a w→wpAnyH P md ops Q SS π.length listed a w
  | [],listed,a,w,hB,_,h=>⟨by simpa[schedB] using hB,h⟩
  | (i, true) :: r, listed, a, w, hB, hS, h => by
    simp only[schedB,Bool.and_eq_true] at hB
    obtain⟨⟨hr,hf⟩,hB'⟩:=hB
    obtain⟨o,v,hi,hy,hn⟩:=h
    exact wpAnyH_first hi (Region.noSelect_spec hsel) (fun c a w h=>hQ c a o.dst v w h) r.length listed a w (Region.free_spec hi hf) (by simpa using hr) hy hS
      (wpAnyH_of_sched hsel hQ r _ _ w hB' hS hn)
  | (i, false) :: r, listed, a, w, hB, hS, h => by
    simp only[schedB,Bool.and_eq_true,decide_eq_true_eq] at hB
    refine⟨fun h1=>(by rw[hB.1] at h1;cases h1),fun j hj=> ?_⟩
    rw[hB.1] at hj
    have:j=i:=by simpa using hj
    subst this
    exact wpOp_mono (fun a' w' h'=>⟨h'.1,wpAnyH_of_sched hsel hQ r _ a' w' hB.2 h'.1 h'.2⟩) h

def Mem0 (L0:List Blk) (w:World):Prop:=∀ x ∈ L0,w.heap[x.b]? =some (.cells x.cs x.t (0,0))
theorem St.mem0 {w0 W:World} {L L0:List Blk} (S:St w0 W L) (h:∀ x ∈ L0,x ∈ L):Mem0 L0 W:=fun x hx=>S.has x (h x hx)


variable {r:List (Nat×Bool)} {i:Nat} {o:Oper} {a:Act} {w0 W:World} {L L0:List Blk}
theorem wh_only (hi:ops[i]? =some o) (hw:Region.wanted o (yielded ops a.tmps)=true) (h:o.wp P a W (fun a' w'=>SS w'∧walkH P ops Q SS r a' w') Q):walkH P ops Q SS ((i,false) :: r) a W:=by
  unfold walkH wpOp
  simp only[hi,hw,if_true]
  exact .inl h
end
end Go.Calm

namespace Go.Calm
open Go.RowKit
section
variable {P:Program} {ops:Array Oper} {Q:Exit→Act→World→Prop} {r:List (Nat×Bool)} {i:Nat} {o:Oper} {a:Act} {w0 W:World} {L L0:List Blk}
end
end Go.Calm

/-
  A region that draws its order,with one new variable that may be made at whatever time,and operations (calls whose answers hang on the world among them) that come up one behind the other:one walk serves every order.
  What is known of the world beside the call's own blocks is a fact F that stays when memory is only added.
-/
namespace Go.Calm
open Go.RowKit
section
variable {P:Program} {ops:Array Oper} {Q:Exit→Act→World→Prop} {md:Region.Mode} {w0:World} {L L0:List Blk} {k:Nat} {d:Tmp} {cs:Array Value} {t:TypeId} {tail:List (Nat×Bool)}

def yieldsW (P:Program) (Φ:Value→World→Prop):Result Next→Prop
  | .ok (.value u) w'=>Φ u w'
  | .ok .skip w'=>Φ undef w'
  | .ok (.enter f args) w'=>Calls P f args w' (fun e w''=>∃ v,e= .returned v∧Φ v w'')
  |_=>False
def Stable (F:World→Prop):Prop:=∀ w w',F w→Below w.heap.size w w'→F w'
theorem stable_true:Stable fun _=>True:=fun _ _ _ _=>trivial

def walkA (P:Program) (ops:Array Oper) (Q:Exit→Act→World→Prop) (w0:World) (L L0:List Blk) (d:Tmp) (cs:Array Value) (t:TypeId) (tail:List (Nat×Bool)):List (Nat×Bool)→(World→Prop)→Act→Prop
  | [],F,a=>∀ b W,St w0 W (⟨b,cs,t⟩ :: L)→F W→walkH P ops Q (Mem0 L0) tail (a.put (some d) (ptr b)) W
  |(i,true) :: r,F,a=>∃ o v,ops[i]? =some o∧YieldsIf P ops (Mem0 L0) o v a∧walkA P ops Q w0 L L0 d cs t tail r F (a.put o.dst v)
  | (i, false) :: r, F, a => ∃ o, ops[i]? = some o ∧ Region.wanted o (yielded ops a.tmps) = true ∧ ∃ G : Value → World → Prop, (∀ v, Stable (G v)) ∧
      (∀ W,St w0 W L→F W→yieldsW P (fun v W'=>Below W.heap.size W W'∧G v W') ((execOp a.eval o).run P W))∧∀ v,(∃ W',F W'∧G v W')→walkA P ops Q w0 L L0 d cs t tail r (fun w=>F w∧G v w) (a.put o.dst v)

def apartB (ops:Array Oper) (d:Tmp) (i:Nat):Bool:=match ops[i]? with
  |some o=>o.dst != some d && !(o.looksAt ops).contains d
  |none=>false
def chkA (md:Region.Mode) (ops:Array Oper) (k:Nat) (d:Tmp) (tail:List (Nat×Bool)):List (Nat×Bool)→Array Bool→Bool
  | [],l=>decide (Region.ready md ops l= [k]) && schedB md ops tail (l.setIfInBounds k true)
  |(i,true) :: r,l=>decide (i≠k) && apartB ops d i && (Region.ready md ops l).contains i && Region.free md ops l i && (Region.ready md ops (l.setIfInBounds k true)).contains i && Region.free md ops (l.setIfInBounds k true) i && chkA md ops k d tail r (l.setIfInBounds i true)
  |(i,false) :: r,l=>decide (i≠k) && apartB ops d i && decide (Region.ready md ops l≠ []) && (Region.ready md ops l).all (fun j=>j == i || j == k) && decide (Region.ready md ops (l.setIfInBounds k true)= [i]) && chkA md ops k d tail r (l.setIfInBounds i true)

theorem apart_spec {i:Nat} {o:Oper} (hi:ops[i]? =some o) (h:apartB ops d i=true):o.dst≠some d∧d ∉ o.looksAt ops:=by
  unfold apartB at h
  simp only[hi,Bool.and_eq_true,bne_iff_ne,ne_eq,Bool.not_eq_true',List.contains_eq_mem,decide_eq_false_iff_not] at h
  exact h
theorem wpOp_of_yields {i:Nat} {o:Oper} {a:Act} {W:World} {K:Act→World→Prop} {Φ:Value→World→Prop} (hi:ops[i]? =some o) (hw:Region.wanted o (yielded ops a.tmps)=true) (hy:yieldsW P Φ ((execOp a.eval o).run P W)) (h:∀ v w',Φ v w'→K (a.put o.dst v) w'):wpOp P ops Q i K a W:=by
  unfold wpOp
  simp only[hi,hw,if_true]
  refine .inl ?_
  unfold Oper.wp
  generalize(execOp a.eval o).run P W=r at*
  cases r with
  | ok n w' =>
    cases n<;>simp only[yieldsW] at hy<;>simp only[Oper.upon]
    · exact h _ _ hy
    · exact h _ _ hy
    · exact hy.mono fun e w'' ⟨v,he,hΦ⟩=>by subst he;exact h _ _ hΦ
  |halt x w'=>simp only[yieldsW] at hy

theorem put_d {o:Oper} {a:Act} {b:Nat} {v:Value} (hd:o.dst≠some d):(a.put (some d) (ptr b)).put o.dst v=(a.put o.dst v).put (some d) (ptr b):=
  Act.put_comm a (ptr b) v (fun e he=>by cases he;exact hd)

theorem anyA_some (hsel:Region.noSelect ops=true) (hQ:∀ c (a:Act) (d:Option Tmp) (v:Value) (w:World),Q (.panic c) (a.put d v) w→Q (.panic c) a w) (hsub:∀ x ∈ L0,x ∈ L):
    ∀ (π : List (Nat × Bool)) (l : Array Bool) (F : World → Prop) (a : Act) (b : Nat) (W : World), chkA md ops k d tail π l = true → Stable F → F W → St w0 W (⟨b, cs, t⟩ :: L) → walkA P ops Q w0 L L0 d cs t tail π F a →
      wpAnyH P md ops Q (Mem0 L0) (π.length+tail.length) (l.setIfInBounds k true) (a.put (some d) (ptr b)) W
  | [], l, F, a, b, W, hB, _, hF, S, h => by
    simp only[chkA,Bool.and_eq_true] at hB
    have:=wpAnyH_of_sched hsel hQ tail _ _ W hB.2 (S.mem0 fun x hx=>List.mem_cons_of_mem _ (hsub x hx)) (h b W S hF)
    simpa using this
  | (i, true) :: r, l, F, a, b, W, hB, hst, hF, S, h => by
    simp only[chkA,Bool.and_eq_true,decide_eq_true_eq] at hB
    obtain⟨⟨⟨⟨⟨⟨hik,hap⟩,_⟩,_⟩,hr⟩,hf⟩,hB'⟩:=hB
    obtain⟨o,v,hi,hy,hn⟩:=h
    obtain⟨h1,h2⟩:=apart_spec hi hap
    have hl:∀ e,some d=some e→e ∉ o.looksAt ops:=fun e he=>by cases he;exact h2
    have hs:∀ c b,o.op≠ .select c b:=fun c b=>Region.noSelect_spec hsel i o c b hi
    have hy':YieldsIf P ops (Mem0 L0) o v (a.put (some d) (ptr b)):=hy.of_same (execOp_put o hs a _ _ hl) (wanted_put o a _ _ hl)
    have ih:=anyA_some hsel hQ hsub r (l.setIfInBounds i true) F (a.put o.dst v) b W hB' hst hF S hn
    rw[show((i,true) :: r).length+tail.length=(r.length+tail.length)+1 by simp;omega]
    refine wpAnyH_first hi (Region.noSelect_spec hsel) (fun c a w h=>hQ c a o.dst v w h) _ _ _ W (Region.free_spec hi hf) (by simpa using hr) hy' (S.mem0 fun x hx=>List.mem_cons_of_mem _ (hsub x hx)) ?_
    rw[put_d h1,Array.setIfInBounds_comm _ _ (Ne.symm hik)]
    exact ih
  | (i, false) :: r, l, F, a, b, W, hB, hst, hF, S, h => by
    simp only[chkA,Bool.and_eq_true,decide_eq_true_eq] at hB
    obtain⟨⟨⟨⟨⟨hik,hap⟩,_⟩,_⟩,hr⟩,hB'⟩:=hB
    obtain⟨o,hi,hw,G,hG,hy,hn⟩:=h
    obtain⟨h1,h2⟩:=apart_spec hi hap
    have hl:∀ e,some d=some e→e ∉ o.looksAt ops:=fun e he=>by cases he;exact h2
    have hs:∀ c b,o.op≠ .select c b:=fun c b=>Region.noSelect_spec hsel i o c b hi
    rw[show((i,false) :: r).length+tail.length=(r.length+tail.length)+1 by simp;omega]
    refine⟨fun h0=>(by rw[hr] at h0;cases h0),fun j hj=> ?_⟩
    rw[hr] at hj
    have:j=i:=by simpa using hj
    subst this
    have hy0:=hy W S.tail hF
    refine wpOp_of_yields (Φ:=fun v W'=>Below W.heap.size W W'∧G v W') hi (by rw[wanted_put o a _ _ hl];exact hw) (by rw[execOp_put o hs a _ _ hl];exact hy0) fun v w' ⟨hb,hg⟩=> ?_
    have S':=S.call hb
    refine⟨S'.mem0 fun x hx=>List.mem_cons_of_mem _ (hsub x hx),?_⟩
    rw[put_d h1,Array.setIfInBounds_comm _ _ (Ne.symm hik)]
    exact anyA_some hsel hQ hsub r (l.setIfInBounds j true) _ (a.put o.dst v) b w' hB' (fun x y ⟨p1,p2⟩ hxy=>⟨hst x y p1 hxy,hG v x y p2 hxy⟩) ⟨hst W w' hF hb,hg⟩ S' (hn v ⟨w',hst W w' hF hb,hg⟩)

theorem alloc_below (W:World) (obj:Obj):Below W.heap.size W (W.alloc obj):=(Below.refl _ _).alloc (Nat.le_refl _) obj
theorem anyA_none {ok : Oper} (hsel : Region.noSelect ops = true) (hQ : ∀ c (a : Act) (d : Option Tmp) (v : Value) (w : World), Q (.panic c) (a.put d v) w → Q (.panic c) a w) (hsub : ∀ x ∈ L0, x ∈ L) (hk : ops[k]? = some ok) (hkd : ok.dst = some d) (hkg : ok.guard = none) (hko : ok.op = .alloc t) (hz : (P.info? t).bind (·.zero) = some (.agg cs)) :
    ∀ (π : List (Nat × Bool)) (l : Array Bool) (F : World → Prop) (a : Act) (W : World), chkA md ops k d tail π l = true → Stable F → F W → St w0 W L → walkA P ops Q w0 L L0 d cs t tail π F a →
      wpAnyH P md ops Q (Mem0 L0) (π.length+tail.length+1) l a W:=by
  have mk : ∀ (π : List (Nat × Bool)) (l : Array Bool) (F : World → Prop) (a : Act) (W : World), chkA md ops k d tail π l = true → Stable F → F W → St w0 W L → walkA P ops Q w0 L L0 d cs t tail π F a →
      wpOp P ops Q k (fun a' w'=>Mem0 L0 w'∧wpAnyH P md ops Q (Mem0 L0) (π.length+tail.length) (l.setIfInBounds k true) a' w') a W:=by
    intro π l F a W hB hst hF S h
    refine wpOp_of_yields (Φ:=fun v w'=>v=ptr W.heap.size∧w'=W.alloc (.cells cs t)) hk (by simp[Region.wanted,hkg]) (by rw[run_alloc hko hz a W];exact⟨rfl,rfl⟩) fun v w' ⟨h1,h2⟩=> ?_
    subst h1 h2
    have S':=S.new cs t
    rw[hkd]
    exact⟨S'.mem0 fun x hx=>List.mem_cons_of_mem _ (hsub x hx),anyA_some hsel hQ hsub π l F a W.heap.size _ hB hst (hst _ _ hF (alloc_below W _)) S' h⟩
  intro π
  induction π with
  | nil =>
    intro l F a W hB hst hF S h
    have hB0:=hB
    simp only[chkA,Bool.and_eq_true,decide_eq_true_eq] at hB
    refine⟨fun h0=>(by rw[hB.1] at h0;cases h0),fun j hj=> ?_⟩
    rw[hB.1] at hj
    have:j=k:=by simpa using hj
    subst this
    exact mk [] l F a W hB0 hst hF S h
  | cons x r ih =>
    obtain⟨i,fl⟩:=x
    intro l F a W hB hst hF S h
    have hB0:=hB
    cases fl with
    | true =>
      simp only[chkA,Bool.and_eq_true,decide_eq_true_eq] at hB
      obtain⟨⟨⟨⟨⟨⟨hik,hap⟩,hr⟩,hf⟩,_⟩,_⟩,hB'⟩:=hB
      obtain⟨o,v,hi,hy,hn⟩:=h
      rw[show((i,true) :: r).length+tail.length+1=(r.length+tail.length+1)+1 by simp;omega]
      exact wpAnyH_first hi (Region.noSelect_spec hsel) (fun c a w h=>hQ c a o.dst v w h) _ _ _ W (Region.free_spec hi hf) (by simpa using hr) hy (S.mem0 hsub) (ih (l.setIfInBounds i true) F (a.put o.dst v) W hB' hst hF S hn)
    | false =>
      simp only[chkA,Bool.and_eq_true,decide_eq_true_eq,List.all_eq_true,Bool.or_eq_true,beq_iff_eq] at hB
      obtain⟨⟨⟨⟨⟨hik,hap⟩,hne⟩,hr⟩,_⟩,hB'⟩:=hB
      refine⟨fun h0=>absurd h0 hne,fun j hj=> ?_⟩
      rcases hr j hj with rfl|rfl
      · obtain ⟨o, hi, hw, G, hG, hy, hn⟩ := h
        refine wpOp_of_yields hi hw (hy W S hF) fun v w' ⟨hb,hg⟩=> ?_
        have S':=S.call hb
        refine⟨S'.mem0 hsub,?_⟩
        have:=ih (l.setIfInBounds j true) _ (a.put o.dst v) w' hB' (fun x y ⟨p1,p2⟩ hxy=>⟨hst x y p1 hxy,hG v x y p2 hxy⟩) ⟨hst W w' hF hb,hg⟩ S' (hn v ⟨w',hst W w' hF hb,hg⟩)
        rw[show((j,false) :: r).length+tail.length=r.length+tail.length+1 by simp;omega]
        exact this
      · exact mk ((i,false) :: r) l F a W hB0 hst hF S h

theorem region_new {id:Nat} {l:List Oper} {a:Act} {W:World} (S:St w0 W L) (k:Nat) (d:Tmp) (π tail:List (Nat×Bool)) (L0:List Blk) (hm:P.follows .mixedOrders=true)
    (hB:(Region.noSelect l.toArray && π.length+tail.length+1 == l.toArray.size && chkA .any l.toArray k d tail π (Array.replicate l.toArray.size false))=true)
    (hk:(l[k]?).map (fun o=>(o.dst,o.guard,o.op))=some (some d,none,.alloc t)) (hz:(P.info? t).bind (·.zero)=some (.agg cs)) (hsub:∀ x ∈ L0,x ∈ L)
    (hQ:∀ c (a:Act) (d:Option Tmp) (v:Value) (w:World),Q (.panic c) (a.put d v) w→Q (.panic c) a w)
    (h:walkA P l.toArray Q w0 L L0 d cs t tail π (fun _=>True) a):(Code.region id l.toArray true).wp P Q a W:=by
  simp only[Bool.and_eq_true,beq_iff_eq] at hB
  obtain⟨⟨h1,h2⟩,h3⟩:=hB
  cases hq:l[k]? with
  |none=>simp[hq] at hk
  | some o =>
    simp only[hq,Option.map_some,Option.some.injEq,Prod.mk.injEq] at hk
    refine wp_region_any hm (wpAny_of_held (S:=Mem0 L0) _ _ _ _ ?_)
    have:=anyA_none (md:= .any) (tail:=tail) h1 hQ hsub (by simpa using hq) hk.1 hk.2.1 hk.2.2 hz π _ (fun _=>True) a W.drew h3 stable_true trivial S.drew h
    rw[h2] at this
    exact this
variable {r:List (Nat×Bool)} {i:Nat} {o:Oper} {a:Act} {F:World→Prop}
theorem walkA_mono:∀(π:List (Nat×Bool)) (F F':World→Prop) (a:Act),(∀ w,F' w→F w)→walkA P ops Q w0 L L0 d cs t tail π F a→walkA P ops Q w0 L L0 d cs t tail π F' a
  | [],_,_,_,hF,h=>fun b W S hW=>h b W S (hF W hW)
  |(_,true) :: r,F,F',_,hF,⟨o,v,hi,hy,hn⟩=>⟨o,v,hi,hy,walkA_mono r F F' _ hF hn⟩
  | (_, false) :: r, F, F', _, hF, ⟨o, hi, hw, G, hG, hy, hn⟩ => ⟨o, hi, hw, G, hG, fun W S hW => hy W S (hF W hW), fun v ⟨W', h1, h2⟩ =>
      walkA_mono r (fun w=>F w∧G v w) (fun w=>F' w∧G v w) _ (fun w ⟨p1,p2⟩=>⟨hF w p1,p2⟩) (hn v ⟨W',hF W' h1,h2⟩)⟩
end
end Go.Calm

/-
  A drawn region with any number of new variables;a call in a plain walk;a struct that is built.
-/
namespace Go.Calm
open Go.RowKit
section
variable {P:Program} {id:Nat} {l:List Oper} {a:Act} {w0 W:World} {L:List Blk} {Q:Exit→Act→World→Prop}
theorem nodup_of_newB {ops:Array Oper} {n:Nat} {al:List (Nat×Tmp)} (h:newB ops n al=true):(al.map Prod.snd).Nodup:=by
  simp only[newB,Bool.and_eq_true,decide_eq_true_eq] at h
  exact h.1.1.2
end
section
variable {P:Program} {ops:Array Oper} {rest:List Oper} {o:Oper} {a:Act} {w0 W:World} {L:List Blk} {Q:Exit→Act→World→Prop} {al:List (Nat×Tmp)} {R:Act→Prop} {n:Nat}
end
end Go.Calm
