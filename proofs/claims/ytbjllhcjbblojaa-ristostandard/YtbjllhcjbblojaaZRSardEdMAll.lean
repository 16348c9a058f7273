import Derived.Test.YtbjllhcjbblojaaZRSardEdTAll
set_option linter.unusedSimpArgs false
set_option linter.unusedVariables false
namespace Go.Proofs.Ytbjllhcjbblojaa
open Go.RowKit Go.Num
def RepP (P : P4) (a : Pt) : Prop := Ok4 P ∧ Rep (fp P.X) (fp P.Y) (fp P.Z) (fp P.T) a
theorem fp_d2 : fp d2N = 2 * dE := by
  have h : fp d2N = fp (2 * dN) := fp_eq.2 (by decide)
  rw [h, fp_mul]
  rfl
theorem rep_dbl {p : P4} {a : Pt} (h : RepP p a) : RepP (dblP p) (a.add a) := by
  refine ⟨ok4_dbl p, ?_⟩
  simp only [dblP, quotP, fp_mod, fp_mul, fp_add, fp_sub]
  exact dbl_rep h.2 _ _ rfl rfl
theorem rep_addQ {p q : P4} {a b : Pt} (h : RepP p a) (k : RepP q b) : RepP (addQ p q) (a.add b) := by
  refine ⟨ok4_quot _ _ _ _, ?_⟩
  simp only [addQ, quotP, pl, mi, zz, tt, fp_mod, fp_mul, fp_add, fp_sub, fp_d2]
  exact add_rep h.2 k.2 _ _ _ _ rfl rfl rfl rfl
theorem rep_uniq {X Y Z T : Fp} {a b : Pt} (h : Rep X Y Z T a) (k : Rep X Y Z T b) : a = b := (same_rep3 h.three k.three).1 ⟨rfl, rfl⟩
theorem rep_add {p q : P4} {a b : Pt} (h : RepP p a) (k : RepP q b) : RepP (addP p q) (a.add b) := by
  unfold addP
  split
  · rename_i e
    obtain ⟨e1, e2, e3, e4⟩ := e
    have k2 := k.2
    rw [← e1, ← e2, ← e3, ← e4] at k2
    rw [← rep_uniq h.2 k2]
    exact rep_dbl h
  · exact rep_addQ h k
theorem rep_of {A B : Int} (hA : Ok A) (hB : Ok B) (on : OnC (fp A) (fp B)) : RepP (ofP A B) ⟨fp A, fp B, on⟩ := by
  refine ⟨ok4_of A B hA hB, ?_⟩
  simp only [ofP, fp_mod, fp_mul, fp_one]
  exact rep_one ⟨fp A, fp B, on⟩
theorem rep_id : RepP (ofP 0 1) Pt.zero := by
  refine ⟨ok4_id, ?_⟩
  simp only [ofP, fp_mod, fp_mul, fp_one, fp_zero]
  exact rep_one Pt.zero
theorem rep_base : RepP (ofP bxN byN) base := rep_of ok_bx ok_by on_base
end Go.Proofs.Ytbjllhcjbblojaa

set_option linter.unusedSimpArgs false
set_option linter.unusedVariables false
namespace Go.Proofs.Ytbjllhcjbblojaa
open Go.RowKit Go.Num
theorem way_uniq {U V r : Int} {ok : Bool} (h : rtWay U V r ok) : rootV U V = r ∧ rootB U V = ok := by
  unfold rtWay rtTurned rtLast at h
  unfold rootV rootB
  rcases h with ⟨h1, h2, h3⟩ | ⟨h1, h2, h3, h4⟩ | ⟨h1, h2, h3, h4⟩
  · rw [if_pos h1, if_pos h1, h2, h3]; exact ⟨rfl, rfl⟩
  · rw [if_neg h1, if_neg h1, if_pos h2, h3, h4]; exact ⟨rfl, rfl⟩
  · rw [if_neg h1, if_neg h1, if_neg h2, h3, h4]; exact ⟨rfl, rfl⟩
theorem root_cases (U V : Int) : ∃ Z, rootV U V = absF Z ∧ ((U % pr = 0 ∧ Z % pr = 0 ∧ rootB U V = true) ∨ (U % pr ≠ 0 ∧ V % pr = 0 ∧ Z % pr = 0 ∧ rootB U V = false) ∨ (U % pr ≠ 0 ∧ V % pr ≠ 0 ∧ rootB U V = true ∧ V * (Z * Z) % pr = U % pr) ∨ (U % pr ≠ 0 ∧ V % pr ≠ 0 ∧ rootB U V = false ∧ V * (Z * Z) % pr = iNum * U % pr)) := by
  obtain ⟨Z, ok, hw, h⟩ := root_all U V
  obtain ⟨h1, h2⟩ := way_uniq hw
  subst h2
  exact ⟨Z, h1, h⟩
theorem one_ne : (1 : Fp) ≠ 0 := fun h => by have := congrArg Fin.val h; revert this; unfold prM; decide
end Go.Proofs.Ytbjllhcjbblojaa

set_option linter.unusedSimpArgs false
set_option linter.unusedVariables false
namespace Go.Proofs.Ytbjllhcjbblojaa
open Go.RowKit Go.Ev
def tab4 : List (Entry Try.prog) := tab3
def tab5 : List (Entry Try.prog) := tab4
def tab6 : List (Entry Try.prog) := tab5
end Go.Proofs.Ytbjllhcjbblojaa
