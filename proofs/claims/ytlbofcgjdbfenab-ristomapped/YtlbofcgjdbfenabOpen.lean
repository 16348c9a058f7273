/-
  Arrays of integers among a row's arguments: opened, and shut again.
-/
import Derived.ProofKit
import Derived.OpenShut
import Derived.KernelRfl
namespace Go.Calm
open Go.ChangeShapes Go.WideShapes Go.RowKit
section
variable {H : Type} {enc : TypeId × Value → H} {P : Program} {W : World} {base : Nat} {sp : Nat → Bool} {held : Bool} {t e : TypeId} {n : Nat} {k : IntKind}

theorem mapM_range {α : Type} {f : Nat → Option α} {g : Nat → α} : ∀ (l : List Nat), (∀ i ∈ l, f i = some (g i)) → l.mapM f = some (l.map g)
  | [], _ => rfl
  | i :: r, h => by
    rw [List.mapM_cons, h i List.mem_cons_self, mapM_range r (fun j hj => h j (List.mem_cons_of_mem _ hj))]
    rfl
theorem shut_ints_arr (hu : P.underlying t = some (.array n e)) (he : P.underlying e = some (.int k)) (hc1 : P.cellsOf e = 1) (hcn : P.cellsOf t = n) (xs : List Int) (hl : xs.length = n) (hwf : ∀ x ∈ xs, (Lit.int k x).wf = true) :
    DataW.Trod enc P W base sp held t (.agg (xs.map (Value.int k)).toArray) (.agg (xs.map fun x => .lit (.int k x))) [] := by
  refine ⟨2, ?_⟩
  unfold DataW.trod
  rw [hu]
  have hl2 : (Value.agg (xs.map (Value.int k)).toArray).cells.toList.length = P.cellsOf t := by simp [Value.cells, hl, hcn]
  show (if (Value.agg (xs.map (Value.int k)).toArray).cells.toList.length = P.cellsOf t then _ else none) = _
  rw [if_pos hl2]
  have hm : (List.range n).mapM (fun i => DataW.trod enc P W base sp held 1 e (((Value.agg (xs.map (Value.int k)).toArray).cells.toList.drop (i * P.cellsOf e)).take (P.cellsOf e))) = some ((List.range n).map fun i => (DataW.lit (.int k (xs.getD i 0)), [])) := by
    refine mapM_range _ fun i hi => ?_
    have hi' : i < xs.length := by rw [hl]; simpa using hi
    have e1 : ((Value.agg (xs.map (Value.int k)).toArray).cells.toList.drop (i * P.cellsOf e)).take (P.cellsOf e) = [Value.int k (xs.getD i 0)] := by
      rw [hc1, Nat.mul_one]
      show ((xs.map (Value.int k)).drop i).take 1 = _
      rw [List.drop_eq_getElem_cons (by simpa using hi')]
      simp [List.getD, hi']
    rw [e1]
    unfold DataW.trod
    rw [he]
    have hw : (Lit.int k (xs.getD i 0)).wf = true := hwf _ (by simp [List.getD, hi'])
    simp only [hw, and_self, if_true]
  rw [hm]
  simp only [Option.map_some, Option.some.injEq, Prod.mk.injEq, List.map_map]
  refine ⟨?_, by simp⟩
  congr 1
  apply List.ext_getElem
  · simp [hl]
  · intro i h1 h2
    have : i < xs.length := by simpa using h2
    simp [List.getD, this]
theorem ints_of : ∀ (cs : List Value), (∀ i, i < cs.length → ∃ x, cs[i]? = some (Value.int k x) ∧ (Lit.int k x).wf = true) → ∃ xs : List Int, cs = xs.map (Value.int k) ∧ ∀ x ∈ xs, (Lit.int k x).wf = true
  | [], _ => ⟨[], rfl, by simp⟩
  | c :: r, h => by
    obtain ⟨x, hx, hw⟩ := h 0 (by simp)
    obtain ⟨xs, e, hxs⟩ := ints_of r (fun i hi => by have := h (i + 1) (by simpa using hi); simpa using this)
    have hc : c = .int k x := by simpa using hx
    refine ⟨x :: xs, by rw [hc, e]; rfl, fun y hy => ?_⟩
    rcases List.mem_cons.1 hy with rfl | hy
    · exact hw
    · exact hxs y hy
theorem open_ints_arr {r : Reach} {b0 : Nat} {v : Value} {d : DataW H} {p : List MemPlace} (hu : P.underlying t = some (.array n e)) (he : P.underlying e = some (.int k)) (hc1 : P.cellsOf e = 1) (hcn : P.cellsOf t = n)
    (hv : Value.okWide P W r b0 t v) (h : DataW.Trod enc P W base sp held t v d p) : ∃ xs : List Int, v = .agg (xs.map (Value.int k)).toArray ∧ xs.length = n ∧ (∀ x ∈ xs, (Lit.int k x).wf = true) ∧ d = .agg (xs.map fun x => .lit (.int k x)) ∧ p = [] := by
  simp only [Value.okWide, hu] at hv
  obtain ⟨cs, rfl, hsz, _⟩ := hv
  have h0 := h
  obtain ⟨fuel, hf⟩ := h
  obtain ⟨ys, m, _, hx, hlen, hyl, hall⟩ := DataW.trod_array hu hf
  have hcl : cs.toList.length = n := by
    have : (Value.agg cs).cells.toList.length = P.cellsOf t := hlen
    simpa [Value.cells, hcn] using this
  have hget : ∀ i, i < cs.toList.length → ∃ x, cs.toList[i]? = some (Value.int k x) ∧ (Lit.int k x).wf = true := by
    intro i hi
    have h1 := hall i (by omega)
    rw [hc1, Nat.mul_one] at h1
    cases hy : ys[i]? with
    | none => exact absurd (List.getElem?_eq_none_iff.1 hy) (by omega)
    | some y =>
      rw [hy] at h1
      obtain ⟨x, hc, _, hw⟩ := DataW.trod_int he h1
      refine ⟨x, ?_, hw⟩
      have h2 : (cs.toList.drop i).take 1 = [Value.int k x] := hc
      have h3 := congrArg (fun l : List Value => l[0]?) h2
      simpa using h3
  obtain ⟨xs, hxs, hwf⟩ := ints_of cs.toList hget
  have hcs : cs = (xs.map (Value.int k)).toArray := by rw [← hxs]
  have hl : xs.length = n := by rw [← hcl, hxs]; simp
  subst hcs
  refine ⟨xs, rfl, hl, hwf, ?_⟩
  have h1 := shut_ints_arr (enc := enc) (W := W) (base := base) (sp := sp) (held := held) hu he hc1 hcn xs hl hwf
  obtain ⟨f2, hf2⟩ := h1
  have e1 := DataW.trod_le (Nat.le_max_left fuel f2) hf
  have e2 := DataW.trod_le (Nat.le_max_right fuel f2) hf2
  rw [e1] at e2
  simpa using e2
end
end Go.Calm
