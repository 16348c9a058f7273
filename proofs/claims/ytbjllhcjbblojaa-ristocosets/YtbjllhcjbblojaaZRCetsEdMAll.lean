import Derived.Test.YtbjllhcjbblojaaZRCetsEdTAll
set_option linter.unusedSimpArgs false
set_option linter.unusedVariables false
namespace Go.Proofs.Ytbjllhcjbblojaa
open Go.RowKit Go.Num
def RepP (P : P4) (a : Pt) : Prop := Ok4 P ∧ Rep (fp P.X) (fp P.Y) (fp P.Z) (fp P.T) a
def RepN (R : P3) (a : Pt) : Prop := Nu3 R ∧ Rep3 (fp R.X) (fp R.Y) (fp R.Z) a
theorem fp_d2 : fp d2N = 2 * dE := by
  have h : fp d2N = fp (2 * dN) := fp_eq.2 (by decide)
  rw [h, fp_mul]
  rfl
theorem rep_dbl {p : P4} {a : Pt} (h : RepP p a) : RepP (dblP p) (a.add a) := by
  refine ⟨ok4_dbl p, ?_⟩
  simp only [dblP, quotP, fp_mod, fp_mul, fp_add, fp_sub]
  exact dbl_rep h.2 _ _ rfl rfl
theorem rep_addQ {p q : P4} {a b : Pt} (h : RepP p a) (k : RepP q b) : RepP (addQ p q) (a.add b) := by
  refine ⟨ok4_quot _ _ _ _, ?_⟩
  simp only [addQ, quotP, pl, mi, zz, tt, fp_mod, fp_mul, fp_add, fp_sub, fp_d2]
  exact add_rep h.2 k.2 _ _ _ _ rfl rfl rfl rfl
theorem rep_uniq {X Y Z T : Fp} {a b : Pt} (h : Rep X Y Z T a) (k : Rep X Y Z T b) : a = b := (same_rep3 h.three k.three).1 ⟨rfl, rfl⟩
theorem rep_add {p q : P4} {a b : Pt} (h : RepP p a) (k : RepP q b) : RepP (addP p q) (a.add b) := by
  unfold addP
  split
  · rename_i e
    obtain ⟨e1, e2, e3, e4⟩ := e
    have k2 := k.2
    rw [← e1, ← e2, ← e3, ← e4] at k2
    rw [← rep_uniq h.2 k2]
    exact rep_dbl h
  · exact rep_addQ h k
theorem rep_of {A B : Int} (hA : Ok A) (hB : Ok B) (on : OnC (fp A) (fp B)) : RepP (ofP A B) ⟨fp A, fp B, on⟩ := by
  refine ⟨ok4_of A B hA hB, ?_⟩
  simp only [ofP, fp_mod, fp_mul, fp_one]
  exact rep_one ⟨fp A, fp B, on⟩
theorem rep_id : RepP (ofP 0 1) Pt.zero := by
  refine ⟨ok4_id, ?_⟩
  simp only [ofP, fp_mod, fp_mul, fp_one, fp_zero]
  exact rep_one Pt.zero
theorem rep_base : RepP (ofP bxN byN) base := rep_of ok_bx ok_by on_base
end Go.Proofs.Ytbjllhcjbblojaa

set_option linter.unusedSimpArgs false
set_option linter.unusedVariables false
namespace Go.Proofs.Ytbjllhcjbblojaa
open Go.RowKit Go.Num
theorem way_uniq {U V r : Int} {ok : Bool} (h : rtWay U V r ok) : rootV U V = r ∧ rootB U V = ok := by
  unfold rtWay rtTurned rtLast at h
  unfold rootV rootB
  rcases h with ⟨h1, h2, h3⟩ | ⟨h1, h2, h3, h4⟩ | ⟨h1, h2, h3, h4⟩
  · rw [if_pos h1, if_pos h1, h2, h3]; exact ⟨rfl, rfl⟩
  · rw [if_neg h1, if_neg h1, if_pos h2, h3, h4]; exact ⟨rfl, rfl⟩
  · rw [if_neg h1, if_neg h1, if_neg h2, h3, h4]; exact ⟨rfl, rfl⟩
theorem root_cases (U V : Int) : ∃ Z, rootV U V = absF Z ∧ ((U % pr = 0 ∧ Z % pr = 0 ∧ rootB U V = true) ∨ (U % pr ≠ 0 ∧ V % pr = 0 ∧ Z % pr = 0 ∧ rootB U V = false) ∨ (U % pr ≠ 0 ∧ V % pr ≠ 0 ∧ rootB U V = true ∧ V * (Z * Z) % pr = U % pr) ∨ (U % pr ≠ 0 ∧ V % pr ≠ 0 ∧ rootB U V = false ∧ V * (Z * Z) % pr = iNum * U % pr)) := by
  obtain ⟨Z, ok, hw, h⟩ := root_all U V
  obtain ⟨h1, h2⟩ := way_uniq hw
  subst h2
  exact ⟨Z, h1, h⟩
theorem root_even (U V : Int) : ¬ rootV U V % pr % 2 = 1 := by
  obtain ⟨Z, h, _⟩ := root_cases U V
  rw [h]; exact abs_even Z
theorem root_bd (U V : Int) : 0 ≤ rootV U V ∧ rootV U V < pr := by
  obtain ⟨Z, h, _⟩ := root_cases U V
  rw [h]; unfold absF; split <;> exact mod_bd _
theorem root_ok {U V : Int} (h : rootB U V = true) : V * (rootV U V * rootV U V) % pr = U % pr := by
  obtain ⟨Z, h1, h2⟩ := root_cases U V
  rw [h1, cmul rfl (abs_sq Z)]
  rcases h2 with ⟨a, b, c⟩ | ⟨a, b, c, d⟩ | ⟨a, b, c, d⟩ | ⟨a, b, c, d⟩
  · rw [a, cmul rfl (cmul (Y := Z) (Y' := 0) rfl (by rw [b]; rfl)), Int.mul_zero, Int.mul_zero]; rfl
  · rw [d] at h; cases h
  · exact d
  · rw [c] at h; cases h
theorem absR_F {x : Int} (h : 0 ≤ x ∧ x < pr) : absR x = absF x := by
  unfold absR absF
  rw [Int.emod_eq_of_lt h.1 h.2]
theorem quo_root (u v : Int) (hu : 0 ≤ u ∧ u < pr) (hv : 0 ≤ v ∧ v < pr) (h0 : v % pr ≠ 0) : quoV u v = rootV u v ∧ quoB u v = rootB u v := by
  obtain ⟨Z, h1, h2⟩ := root_cases u v
  have eu := Int.emod_eq_of_lt hu.1 hu.2
  have ev := Int.emod_eq_of_lt hv.1 hv.2
  have v0 : ¬ v = 0 := by rw [ev] at h0; exact h0
  unfold quoV quoB
  rw [h1]
  rcases h2 with ⟨a, b, c⟩ | ⟨a, b, c, d⟩ | ⟨a, b, c, d⟩ | ⟨a, b, c, d⟩
  · rw [eu] at a
    rw [if_pos a, if_pos a, c, abs_zero Z b]; exact ⟨rfl, rfl⟩
  · exact absurd b h0
  · have a' := a
    rw [eu] at a
    obtain ⟨s1, s2⟩ := same_ok u v Z h0 d
    rw [if_neg a, if_neg a, if_neg v0, if_neg v0, if_pos s1, decide_eq_true s1, c, absR_F (bd_rx _), s2]; exact ⟨rfl, rfl⟩
  · have a' := a
    rw [eu] at a
    obtain ⟨s1, s2, s3⟩ := same_no u v Z a' h0 d
    rw [if_neg a, if_neg a, if_neg v0, if_neg v0, if_neg s1, decide_eq_false s1, c, absR_F (bd_rx _), s3]; exact ⟨rfl, rfl⟩
theorem fpU (y : Int) : fp (atU y) = fp y * fp y - 1 := by
  unfold atU
  simp only [fp_mod, fp_mul, fp_sub, fp_one]
theorem fpV (y : Int) : fp (atV y) = dE * (fp y * fp y) + 1 := by
  unfold atV
  simp only [fp_mod, fp_mul, fp_add, fp_one]
  rfl
theorem one_ne : (1 : Fp) ≠ 0 := fun h => by have := congrArg Fin.val h; revert this; unfold prM; decide
theorem mz (d : Fp) : d * ((0 : Fp) * 0) + 1 = 1 := by
  rw [Fin.mul_zero, Fin.mul_zero, Fin.zero_add]
theorem v_ne (y : Int) : fp (atV y) ≠ 0 := by
  rw [fpV]
  intro h
  by_cases hy : fp y = 0
  · rw [hy] at h
    rw [mz] at h
    exact one_ne h
  · have hi := fi_ok hy
    have i2 := i_sqE
    apply d_nonsq (iE * fi (fp y))
    generalize fi (fp y) = j at hi
    generalize fp y = x at h hi
    generalize dE = d at h
    have a1 : iE * j * (iE * j) = iE * iE * (j * j) := by clear h hi; grind -lia
    rw [a1, i2]
    have a2 : d = d * ((x * j) * (x * j)) := by rw [hi]; grind -lia
    have a3 : d * ((x * j) * (x * j)) = (d * (x * x)) * (j * j) := by clear h hi a1 a2; grind -lia
    rw [a2, a3, show d * (x * x) = -1 by grind -lia]
theorem v_ne' (y : Int) : atV y % pr ≠ 0 := fp_ne0.1 (v_ne y)
theorem y_sq (y : Int) : y % pr * (y % pr) % pr = y * y % pr := by rw [eml, emr]
theorem at_U (y : Int) : atU (y % pr) = atU y := by unfold atU; rw [y_sq]
theorem at_V (y : Int) : atV (y % pr) = atV y := by unfold atV; rw [y_sq]
theorem at_quo (y : Int) : quoV (atU y) (atV y) = rootV (atU y) (atV y) ∧ quoB (atU y) (atV y) = rootB (atU y) (atV y) := quo_root _ _ (mod_bd _) (mod_bd _) (v_ne' y)
theorem neg_odd {r : Int} (h : 0 ≤ r ∧ r < pr) (he : ¬ r % pr % 2 = 1) : (-r % pr % pr % 2 = 1) ↔ ¬ r = 0 := by
  rw [emm]
  have e := Int.emod_eq_of_lt h.1 h.2
  by_cases h0 : r = 0
  · subst h0; simp
  · have h1 : r % pr ≠ 0 := by rw [e]; exact h0
    rw [neg_mod1 h1]
    rw [e] at he ⊢
    constructor
    · intro _; exact h0
    · intro _
      unfold pr at *; omega
theorem at_same (y : Int) (o : Bool) : ratB (y % pr) o = atB y o ∧ ratX (y % pr) o = atX y o := by
  obtain ⟨q1, q2⟩ := at_quo y
  have hb := root_bd (atU y) (atV y)
  have he := root_even (atU y) (atV y)
  unfold ratB ratX atB atX
  rw [at_U, at_V, q1, q2]
  refine ⟨?_, rfl⟩
  congr 1
  cases o with
  | false =>
    show (!(false && _)) = (decide (rootV (atU y) (atV y) % pr % 2 = 1) == false)
    rw [decide_eq_false he]; rfl
  | true =>
    show (!(true && decide (rootV (atU y) (atV y) = 0))) = (decide (-(rootV (atU y) (atV y)) % pr % pr % 2 = 1) == true)
    have := neg_odd hb he
    by_cases h0 : rootV (atU y) (atV y) = 0
    · rw [decide_eq_true h0, decide_eq_false (fun h => this.1 h h0)]; rfl
    · rw [decide_eq_false h0, decide_eq_true (this.2 h0)]; rfl
theorem ok_atX (y : Int) (o : Bool) : Ok (atX y o) := by cases o <;> first | exact ok_mod _ | exact ok_rootV _ _
theorem bd_atX (y : Int) (o : Bool) : 0 ≤ atX y o ∧ atX y o < pr := by cases o <;> first | exact mod_bd _ | exact root_bd _ _
theorem on_sq {x y : Fp} (h : (dE * (y * y) + 1) * (x * x) = y * y - 1) : OnC x y := by
  unfold OnC
  generalize dE = d at h
  have : d * x * x * y * y = (d * (y * y) + 1) * (x * x) - x * x := by clear h; grind -lia
  rw [this, h]; grind -lia
theorem at_on {y : Int} {o : Bool} (h : rootB (atU y) (atV y) = true) : OnC (fp (atX y o)) (fp y) := by
  have h1 := root_ok h
  rw [← fp_eq, fp_mul, fp_mul, fpU, fpV] at h1
  cases o with
  | false => exact on_sq h1
  | true =>
    apply on_sq
    show _ * (fp (-(rootV (atU y) (atV y)) % pr) * fp (-(rootV (atU y) (atV y)) % pr)) = _
    rw [fp_mod, fp_neg]
    generalize fp (rootV (atU y) (atV y)) = x at h1 ⊢
    rw [show -x * -x = x * x by grind -lia]
    exact h1
theorem at_B {y : Int} {o : Bool} (h : atB y o = true) : rootB (atU y) (atV y) = true := by
  unfold atB at h
  simp only [Bool.and_eq_true] at h
  exact h.1
theorem at_rep (y : Int) (o : Bool) (hy : Ok y) (h : atB y o = true) : ∃ a : Pt, RepP (atP y o) a ∧ RepN (ratP (y % pr) o) a := by
  have on : OnC (fp (atX y o)) (fp y) := at_on (at_B h)
  refine ⟨⟨_, _, on⟩, ?_, ?_⟩
  · unfold atP
    rw [h]
    exact rep_of (ok_atX y o) hy on
  · unfold ratP
    rw [(at_same y o).1, h, (at_same y o).2]
    refine ⟨⟨bd_atX y o, mod_bd _, bd_1⟩, ?_⟩
    simp only [cond, fp_mod, fp_one]
    exact rep3_one ⟨_, _, on⟩
theorem ok4_at (y : Int) (o : Bool) (hy : Ok y) : Ok4 (atP y o) := by
  unfold atP
  cases atB y o with
  | true => exact ok4_of _ _ (ok_atX y o) hy
  | false => exact ⟨ok_0, ok_0, ok_0, ok_0⟩
theorem ok4_atD {y : Int} (o : Bool) (hy : Ok y) : Ok4 (atP (nm (feC y)) o) := by rw [nm_feC y hy]; exact ok4_at y o hy
end Go.Proofs.Ytbjllhcjbblojaa

set_option linter.unusedSimpArgs false
set_option linter.unusedVariables false
namespace Go.Proofs.Ytbjllhcjbblojaa
open Go.RowKit Go.Ev
def tab4 : List (Entry Try.prog) := tab3
def tab5 : List (Entry Try.prog) := tab4
def tab6 : List (Entry Try.prog) := tab5
end Go.Proofs.Ytbjllhcjbblojaa
