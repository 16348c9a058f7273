import Derived.Test.YthldpfindbhkeaaZSPvalOpen
import Derived.Test.YthldpfindbhkeaaZSPvalArgs
import Derived.Test.YthldpfindbhkeaaZSPvalEd1
import Derived.ProofKit
import Derived.Test.YthldpfindbhkeaaZSPvalEdEAll
/-
  Structs without pointers among a row's arguments:opened,and shut again whatever the memory.
-/
namespace Go.Calm
open Go.ChangeShapes Go.WideShapes Go.RowKit
section
variable {H:Type} {enc:TypeId×Value→H} {P:Program} {base:Nat} {sp:Nat→Bool} {held:Bool}
def flatB (P : Program) : Nat → TypeId → Bool
  |0,_=>false
  | f + 1, t => match P.underlying t with
    |some .bool=>true
    |some (.int _)=>true
    |some (.array _ e)=>flatB P f e
    |some (.struct fs)=>fs.toList.all (fun x=>flatB P f x.type)
    |_=>false
theorem flat_indep (W W' : World) (base' : Nat) (sp' : Nat → Bool) (held' : Bool) : ∀ (g : Nat) (t : TypeId), flatB P g t = true → ∀ (fuel : Nat) (cs : List Value), DataW.trod enc P W base sp held fuel t cs = DataW.trod enc P W' base' sp' held' fuel t cs
  |0,_,h,_,_=>by cases h
  |g+1,t,h,0,cs=>rfl
  | g + 1, t, h, fuel + 1, cs => by
    unfold flatB at h
    unfold DataW.trod
    split at h
    · rename_i hu;rw[hu];rcases cs with _|⟨c,_|⟨d,r⟩⟩<;>first|rfl|(cases c<;>rfl)
    · rename_i hu;rw[hu];rcases cs with _|⟨c,_|⟨d,r⟩⟩<;>first|rfl|(cases c<;>rfl)
    · rename_i n e hu
      rw[hu]
      simp only[fun cs=>flat_indep W W' base' sp' held' g e h fuel cs]
    · rename_i fs hu
      rw[hu]
      have e : (fs.toList.mapM fun f => DataW.trod enc P W base sp held fuel f.type ((cs.drop f.offset).take (P.cellsOf f.type))) = (fs.toList.mapM fun f => DataW.trod enc P W' base' sp' held' fuel f.type ((cs.drop f.offset).take (P.cellsOf f.type))) := by
        generalize fs.toList=l at h
        induction l with
        |nil=>rfl
        | cons f r ih =>
          simp only[List.all_cons,Bool.and_eq_true] at h
          rw[List.mapM_cons,List.mapM_cons,ih h.2,flat_indep W W' base' sp' held' g f.type h.1 fuel]
      simp only[e]
    · cases h
theorem mapM_places {α : Type} {f : α → Option (DataW H × List MemPlace)} : ∀ (l : List α) (xs : List (DataW H × List MemPlace)), l.mapM f = some xs → (∀ a ∈ l, ∀ x p, f a = some (x, p) → p = []) → xs.flatMap (·.2) = []
  | [], xs, h, _ => by
    simp at h;subst h;rfl
  | a :: r, xs, h, hp => by
    rw[List.mapM_cons] at h
    cases ha:f a with
    |none=>simp[ha] at h
    | some y =>
      cases hr:r.mapM f with
      |none=>simp[ha,hr] at h
      | some ys =>
        simp[ha,hr] at h
        subst h
        obtain⟨x,p⟩:=y
        have h1:=hp a List.mem_cons_self x p ha
        have h2:=mapM_places r ys hr (fun b hb=>hp b (List.mem_cons_of_mem _ hb))
        subst h1
        simpa using h2
theorem flat_places (W : World) : ∀ (g : Nat) (t : TypeId), flatB P g t = true → ∀ (fuel : Nat) (cs : List Value) (x : DataW H) (p : List MemPlace), DataW.trod enc P W base sp held fuel t cs = some (x, p) → p = []
  |0,_,h,_,_,_,_,_=>by cases h
  |g+1,t,h,0,cs,x,p,ht=>by cases ht
  | g + 1, t, h, fuel + 1, cs, x, p, ht => by
    unfold flatB at h
    unfold DataW.trod at ht
    split at h
    · rename_i hu; rw [hu] at ht
      split at ht<;>simp_all
    · rename_i hu; rw [hu] at ht
      split at ht<;>simp_all
    · rename_i n e hu
      rw[hu] at ht
      simp only at ht
      split at ht
      · cases hm : (List.range n).mapM (fun i => DataW.trod enc P W base sp held fuel e ((cs.drop (i * P.cellsOf e)).take (P.cellsOf e))) with
        |none=>simp[hm] at ht
        | some xs =>
          rw[hm] at ht
          simp only[Option.map_some,Option.some.injEq,Prod.mk.injEq] at ht
          rw[← ht.2]
          exact mapM_places _ xs hm (fun i _ y q hq=>flat_places W g e h fuel _ y q hq)
      · cases ht
    · rename_i fs hu
      rw[hu] at ht
      simp only at ht
      split at ht
      · cases hm : fs.toList.mapM (fun f => DataW.trod enc P W base sp held fuel f.type ((cs.drop f.offset).take (P.cellsOf f.type))) with
        |none=>simp[hm] at ht
        | some xs =>
          rw[hm] at ht
          simp only[Option.map_some,Option.some.injEq,Prod.mk.injEq] at ht
          rw[← ht.2]
          refine mapM_places _ xs hm (fun f hf y q hq=>flat_places W g f.type ?_ fuel _ y q hq)
          exact List.all_eq_true.1 h f hf
      · cases ht
    · cases h
theorem flat_shut {W W':World} {base':Nat} {sp':Nat→Bool} {held':Bool} {g:Nat} {t:TypeId} {v:Value} {d:DataW H} {p:List MemPlace} (h:flatB P g t=true) (ht:DataW.Trod enc P W base sp held t v d p):p= []∧DataW.Trod enc P W' base' sp' held' t v d []:=by
  obtain⟨fuel,hf⟩:=ht
  have hp:=flat_places W g t h fuel _ _ _ hf
  subst hp
  exact⟨rfl,fuel,by rw[← flat_indep W W' base' sp' held' g t h fuel];exact hf⟩
end
end Go.Calm

namespace Go.Calm
open Go.ChangeShapes Go.WideShapes Go.RowKit
section
variable {H:Type} {enc:TypeId×Value→H} {P:Program} {W:World} {base:Nat} {sp:Nat→Bool} {held:Bool} {t e:TypeId} {n:Nat} {k:IntKind}
theorem ints_trod {fuel:Nat} {cs:List Value} {d:DataW H} {p:List MemPlace} (hu:P.underlying t=some (.array n e)) (he:P.underlying e=some (.int k)) (hc1:P.cellsOf e=1) (hcn:P.cellsOf t=n)
    (hf:DataW.trod enc P W base sp held fuel t cs=some (d,p)):∃ xs:List Int,cs=xs.map (Value.int k)∧xs.length=n∧∀ x ∈ xs,(Lit.int k x).wf=true:=by
  obtain⟨ys,m,_,hx,hlen,hyl,hall⟩:=DataW.trod_array hu hf
  have hcl:cs.length=n:=by rw[hlen,hcn]
  have hget : ∀ i, i < cs.length → ∃ x, cs[i]? = some (Value.int k x) ∧ (Lit.int k x).wf = true := by
    intro i hi
    have h1:=hall i (by omega)
    rw[hc1,Nat.mul_one] at h1
    cases hy:ys[i]? with
    |none=>exact absurd (List.getElem?_eq_none_iff.1 hy) (by omega)
    | some y =>
      rw[hy] at h1
      obtain⟨x,hc,_,hw⟩:=DataW.trod_int he h1
      refine⟨x,?_,hw⟩
      have h2:(cs.drop i).take 1= [Value.int k x]:=hc
      have h3:=congrArg (fun l:List Value=>l[0]?) h2
      simpa using h3
  obtain⟨xs,hxs,hwf⟩:=ints_of cs hget
  exact⟨xs,hxs,by rw[← hcl,hxs];simp,hwf⟩
end
end Go.Calm
namespace Go.Proofs.Ythldpfindbhkeaa
open Go.ChangeShapes Go.WideShapes Go.RowKit
end Go.Proofs.Ythldpfindbhkeaa

namespace Go.Proofs.Ythldpfindbhkeaa
open Go.ChangeShapes Go.WideShapes Go.RowKit
end Go.Proofs.Ythldpfindbhkeaa

namespace Go.Proofs.Ythldpfindbhkeaa
open Go.ChangeShapes Go.WideShapes Go.RowKit
theorem cellU8:Try.prog.cellsOf 5=1:=by kernel_rfl
theorem wf_u8 {x:Int} (h:(Lit.int .u8 x).wf=true):0≤x∧x≤255:=bounds_u8 h
end Go.Proofs.Ythldpfindbhkeaa
