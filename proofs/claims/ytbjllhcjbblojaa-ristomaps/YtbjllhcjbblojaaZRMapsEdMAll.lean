import Derived.Test.YtbjllhcjbblojaaZRMapsEdTAll
set_option linter.unusedSimpArgs false
set_option linter.unusedVariables false
namespace Go.Proofs.Ytbjllhcjbblojaa
open Go.RowKit Go.Num
def RepP (P : P4) (a : Pt) : Prop := Ok4 P ∧ Rep (fp P.X) (fp P.Y) (fp P.Z) (fp P.T) a
def RepN (R : P3) (a : Pt) : Prop := Nu3 R ∧ Rep3 (fp R.X) (fp R.Y) (fp R.Z) a
theorem fp_d2 : fp d2N = 2 * dE := by
  have h : fp d2N = fp (2 * dN) := fp_eq.2 (by decide)
  rw [h, fp_mul]
  rfl
theorem rep_dbl {p : P4} {a : Pt} (h : RepP p a) : RepP (dblP p) (a.add a) := by
  refine ⟨ok4_dbl p, ?_⟩
  simp only [dblP, quotP, fp_mod, fp_mul, fp_add, fp_sub]
  exact dbl_rep h.2 _ _ rfl rfl
theorem rep_addQ {p q : P4} {a b : Pt} (h : RepP p a) (k : RepP q b) : RepP (addQ p q) (a.add b) := by
  refine ⟨ok4_quot _ _ _ _, ?_⟩
  simp only [addQ, quotP, pl, mi, zz, tt, fp_mod, fp_mul, fp_add, fp_sub, fp_d2]
  exact add_rep h.2 k.2 _ _ _ _ rfl rfl rfl rfl
theorem rep_uniq {X Y Z T : Fp} {a b : Pt} (h : Rep X Y Z T a) (k : Rep X Y Z T b) : a = b := (same_rep3 h.three k.three).1 ⟨rfl, rfl⟩
theorem rep_add {p q : P4} {a b : Pt} (h : RepP p a) (k : RepP q b) : RepP (addP p q) (a.add b) := by
  unfold addP
  split
  · rename_i e
    obtain ⟨e1, e2, e3, e4⟩ := e
    have k2 := k.2
    rw [← e1, ← e2, ← e3, ← e4] at k2
    rw [← rep_uniq h.2 k2]
    exact rep_dbl h
  · exact rep_addQ h k
theorem rep_of {A B : Int} (hA : Ok A) (hB : Ok B) (on : OnC (fp A) (fp B)) : RepP (ofP A B) ⟨fp A, fp B, on⟩ := by
  refine ⟨ok4_of A B hA hB, ?_⟩
  simp only [ofP, fp_mod, fp_mul, fp_one]
  exact rep_one ⟨fp A, fp B, on⟩
theorem rep_base : RepP (ofP bxN byN) base := rep_of ok_bx ok_by on_base
theorem repn_add {p q : P3} {a b : Pt} (h : RepN p a) (k : RepN q b) : RepN (rab_R p q dN) (a.add b) := by
  refine ⟨nu3_ab _ _ _, ?_⟩
  simp only [rab_R, fp_mod, fp_mul, fp_add, fp_sub]
  exact add_rep3 h.2 k.2
theorem rsm_true {p q : P3} {a : Pt} (h : RepN p a) (k : RepN q a) : rsmB p q = true := by
  have := (same_rep3 h.2 k.2).2 rfl
  rw [← fp_mul, ← fp_mul, ← fp_mul, ← fp_mul, fp_eq, fp_eq] at this
  unfold rsmB
  rw [decide_eq_true this.1, decide_eq_true this.2]
  rfl
theorem red3 {p : P4} {a : Pt} (h : RepP p a) : RepN ⟨p.X % pr, p.Y % pr, p.Z % pr⟩ a := by
  refine ⟨⟨mod_bd _, mod_bd _, mod_bd _⟩, ?_⟩
  simp only [fp_mod]
  exact h.2.three
theorem ron_iff (p : P4) : ronB (p.X % pr) (p.Y % pr) (p.Z % pr) (p.T % pr) = decide (onQ p) := by
  unfold ronB
  by_cases h0 : p.Z % pr = 0
  · rw [decide_eq_true h0, decide_eq_false (fun h : onQ p => h.1 h0)]; rfl
  rw [decide_eq_false h0]
  have e1 : (p.X % pr * (p.Y % pr) % pr = p.Z % pr * (p.T % pr) % pr) ↔ (p.X * p.Y % pr = p.Z * p.T % pr) := by rw [eml, emr, eml, emr]
  by_cases h1 : p.X * p.Y % pr = p.Z * p.T % pr
  · rw [decide_eq_true (e1.2 h1)]
    show decide _ = _
    rw [decide_eq_decide]
    have hz : fp p.Z ≠ 0 := fp_ne0.2 h0
    have hi := fi_ok hz
    have ht : fp p.X * fp p.Y = fp p.Z * fp p.T := by rw [← fp_mul, ← fp_mul, fp_eq]; exact h1
    have el : ronL (p.X % pr) (p.Y % pr) (p.Z % pr) = ronR (p.X % pr) (p.Y % pr) (p.Z % pr) ↔ fp (ronL (p.X % pr) (p.Y % pr) (p.Z % pr)) = fp (ronR (p.X % pr) (p.Y % pr) (p.Z % pr)) := by
      rw [fp_eq]
      unfold ronL ronR
      rw [emm, emm]
    have er : onQ p ↔ fp p.Y * fp p.Y - fp p.X * fp p.X = fp p.Z * fp p.Z + dE * (fp p.T * fp p.T) := by
      have : ((p.Y * p.Y - p.X * p.X) % pr = (p.Z * p.Z + dN * (p.T * p.T)) % pr) ↔ fp p.Y * fp p.Y - fp p.X * fp p.X = fp p.Z * fp p.Z + dE * (fp p.T * fp p.T) := by
        rw [← fp_eq]
        simp only [fp_mul, fp_add, fp_sub]
        exact Iff.rfl
      rw [← this]
      exact ⟨fun h => h.2.2, fun h => ⟨h0, h1, h⟩⟩
    rw [el, er]
    simp only [ronL, ronR, fp_mod, fp_mul, fp_add, fp_sub, fp_one, fi_fp]
    show _ ↔ _
    change (fp p.Y * fi (fp p.Z) * (fp p.Y * fi (fp p.Z)) - fp p.X * fi (fp p.Z) * (fp p.X * fi (fp p.Z)) = 1 + dE * (fp p.X * fi (fp p.Z) * (fp p.X * fi (fp p.Z)) * (fp p.Y * fi (fp p.Z) * (fp p.Y * fi (fp p.Z))))) ↔ _
    generalize fi (fp p.Z) = j at hi
    generalize fp p.X = x at ht
    generalize fp p.Y = y at ht
    generalize fp p.Z = z at ht hi hz
    generalize fp p.T = t at ht
    generalize dE = d
    have k1 : x * j * (y * j) = t * j := by
      have : x * j * (y * j) = (x * y) * (j * j) := by clear ht hi; grind -lia
      rw [this, ht]
      have : z * t * (j * j) = t * j * (z * j) := by clear ht hi this; grind -lia
      rw [this, hi]; grind -lia
    have k2 : x * j * (x * j) * (y * j * (y * j)) = t * j * (t * j) := by
      have : x * j * (x * j) * (y * j * (y * j)) = (x * j * (y * j)) * (x * j * (y * j)) := by clear ht hi k1; grind -lia
      rw [this, k1]
    rw [k2]
    constructor
    · intro h
      have e : (y * j * (y * j) - x * j * (x * j)) * (z * z) = (1 + d * (t * j * (t * j))) * (z * z) := by rw [h]
      have a1 : (y * j * (y * j) - x * j * (x * j)) * (z * z) = (y * y - x * x) * ((z * j) * (z * j)) := by clear e h ht hi k1 k2; grind -lia
      have a2 : (1 + d * (t * j * (t * j))) * (z * z) = z * z + d * (t * t) * ((z * j) * (z * j)) := by clear e h ht hi k1 k2; grind -lia
      rw [a1, a2, hi] at e
      clear ht hi k1 k2 h a1 a2
      grind -lia
    · intro h
      have a1 : y * j * (y * j) - x * j * (x * j) = (y * y - x * x) * (j * j) := by clear h ht hi k1 k2; grind -lia
      rw [a1, h]
      have a2 : (z * z + d * (t * t)) * (j * j) = (z * j) * (z * j) + d * (t * j * (t * j)) := by clear h ht hi k1 k2; grind -lia
      rw [a2, hi]
      clear h ht hi k1 k2 a1 a2
      grind -lia
  · rw [decide_eq_false (fun h => h1 (e1.1 h)), decide_eq_false (fun h : onQ p => h1 h.2.1)]; rfl
theorem on_of_rep {p : P4} {a : Pt} (h : RepP p a) : onQ p := by
  obtain ⟨_, hz, hx, hy, ht⟩ := h
  have on := a.on
  unfold OnC at on
  refine ⟨fp_ne0.1 hz, ?_, ?_⟩
  · rw [← fp_eq, fp_mul, fp_mul, hx, hy, ht]
    clear on
    grind -lia
  · rw [← fp_eq]
    simp only [fp_mul, fp_add, fp_sub]
    show fp p.Y * fp p.Y - fp p.X * fp p.X = fp p.Z * fp p.Z + dE * (fp p.T * fp p.T)
    rw [hx, hy, ht]
    generalize fp p.Z = z
    generalize dE = d at on
    have : a.y * z * (a.y * z) - a.x * z * (a.x * z) = (a.y * a.y - a.x * a.x) * (z * z) := by clear on; grind -lia
    rw [this, show a.y * a.y - a.x * a.x = 1 + d * a.x * a.x * a.y * a.y by grind -lia]
    clear on this
    grind -lia
theorem is_true {p : P4} {q : P3} {a : Pt} (h : RepP p a) (k : RepN q a) : isB p q = true := by
  unfold isB
  rw [ron_iff, decide_eq_true (on_of_rep h), rsm_true (red3 h) k]
  rfl
end Go.Proofs.Ytbjllhcjbblojaa

set_option linter.unusedSimpArgs false
set_option linter.unusedVariables false
namespace Go.Proofs.Ytbjllhcjbblojaa
open Go.RowKit Go.Num
theorem way_uniq {U V r : Int} {ok : Bool} (h : rtWay U V r ok) : rootV U V = r ∧ rootB U V = ok := by
  unfold rtWay rtTurned rtLast at h
  unfold rootV rootB
  rcases h with ⟨h1, h2, h3⟩ | ⟨h1, h2, h3, h4⟩ | ⟨h1, h2, h3, h4⟩
  · rw [if_pos h1, if_pos h1, h2, h3]; exact ⟨rfl, rfl⟩
  · rw [if_neg h1, if_neg h1, if_pos h2, h3, h4]; exact ⟨rfl, rfl⟩
  · rw [if_neg h1, if_neg h1, if_neg h2, h3, h4]; exact ⟨rfl, rfl⟩
theorem root_cases (U V : Int) : ∃ Z, rootV U V = absF Z ∧ ((U % pr = 0 ∧ Z % pr = 0 ∧ rootB U V = true) ∨ (U % pr ≠ 0 ∧ V % pr = 0 ∧ Z % pr = 0 ∧ rootB U V = false) ∨ (U % pr ≠ 0 ∧ V % pr ≠ 0 ∧ rootB U V = true ∧ V * (Z * Z) % pr = U % pr) ∨ (U % pr ≠ 0 ∧ V % pr ≠ 0 ∧ rootB U V = false ∧ V * (Z * Z) % pr = iNum * U % pr)) := by
  obtain ⟨Z, ok, hw, h⟩ := root_all U V
  obtain ⟨h1, h2⟩ := way_uniq hw
  subst h2
  exact ⟨Z, h1, h⟩
theorem absR_F {x : Int} (h : 0 ≤ x ∧ x < pr) : absR x = absF x := by
  unfold absR absF
  rw [Int.emod_eq_of_lt h.1 h.2]
theorem quo_root (u v : Int) (hu : 0 ≤ u ∧ u < pr) (hv : 0 ≤ v ∧ v < pr) (h0 : v % pr ≠ 0) : quoV u v = rootV u v ∧ quoB u v = rootB u v := by
  obtain ⟨Z, h1, h2⟩ := root_cases u v
  have eu := Int.emod_eq_of_lt hu.1 hu.2
  have ev := Int.emod_eq_of_lt hv.1 hv.2
  have v0 : ¬ v = 0 := by rw [ev] at h0; exact h0
  unfold quoV quoB
  rw [h1]
  rcases h2 with ⟨a, b, c⟩ | ⟨a, b, c, d⟩ | ⟨a, b, c, d⟩ | ⟨a, b, c, d⟩
  · rw [eu] at a
    rw [if_pos a, if_pos a, c, abs_zero Z b]; exact ⟨rfl, rfl⟩
  · exact absurd b h0
  · have a' := a
    rw [eu] at a
    obtain ⟨s1, s2⟩ := same_ok u v Z h0 d
    rw [if_neg a, if_neg a, if_neg v0, if_neg v0, if_pos s1, decide_eq_true s1, c, absR_F (bd_rx _), s2]; exact ⟨rfl, rfl⟩
  · have a' := a
    rw [eu] at a
    obtain ⟨s1, s2, s3⟩ := same_no u v Z a' h0 d
    rw [if_neg a, if_neg a, if_neg v0, if_neg v0, if_neg s1, decide_eq_false s1, c, absR_F (bd_rx _), s3]; exact ⟨rfl, rfl⟩
theorem one_ne : (1 : Fp) ≠ 0 := fun h => by have := congrArg Fin.val h; revert this; unfold prM; decide
end Go.Proofs.Ytbjllhcjbblojaa

set_option linter.unusedSimpArgs false
set_option linter.unusedVariables false
namespace Go.Proofs.Ytbjllhcjbblojaa
open Go.RowKit Go.Ev
def tab4 : List (Entry Try.prog) := tab3
def tab5 : List (Entry Try.prog) := tab4
def tab6 : List (Entry Try.prog) := tab5
end Go.Proofs.Ytbjllhcjbblojaa
