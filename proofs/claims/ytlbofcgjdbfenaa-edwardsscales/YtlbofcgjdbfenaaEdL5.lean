import Derived.Test.YtlbofcgjdbfenaaEdMAll
import Derived.Test.YtlbofcgjdbfenaaEdTm
set_option linter.unusedSimpArgs false
set_option linter.unusedVariables false
namespace Go.Proofs.Ytlbofcgjdbfenaa
open Go.RowKit Go.Ev
def tab8 : List (Entry Try.prog) := pTimes :: qTimes :: tab7
def tiT_h (i : Nat) : Hn := if i = 4 then ⟨11, [], [], [], []⟩ else ⟨0, [], [], [], []⟩
theorem tiT_0 (K : Int) (a : Sd) : evF (yty.en tab8) tiT_h Try.f3 [.agg (byC K), .agg (sdC a)] [some (.bool true), some (.bool true)] = some (.bool true, (((((((((((((((((((((((True ∧ True) ∧ True) ∧ sdD.is (sdC a)) ∧ True) ∧ True) ∧ True) ∧ (True ∧ (twoB (ds (sdC a))) = true)) ∧ ((ptC (atP (ds (sdC a)).Y (ds (sdC a)).o)).all (fun v => v.oneCell') = true)) ∧ ((rpC (ratP ((ds (sdC a)).Y % pr) (ds (sdC a)).o)).all (fun v => v.oneCell') = true)) ∧ True) ∧ True) ∧ True) ∧ True) ∧ True) ∧ (byD.is (byC K) ∧ ptD.is (ptC (atP (ds (sdC a)).Y (ds (sdC a)).o)))) ∧ True) ∧ True) ∧ (byD.is (byC K) ∧ rpD.is (rpC (ratP ((ds (sdC a)).Y % pr) (ds (sdC a)).o)))) ∧ ((ptD.is (ptC (timP (db (byC K)) (dp (ptC (atP (ds (sdC a)).Y (ds (sdC a)).o))))) ∧ rpD.is (rpC (rtimP (db (byC K)) (dr (rpC (ratP ((ds (sdC a)).Y % pr) (ds (sdC a)).o)))))) ∧ (isB (dp (ptC (timP (db (byC K)) (dp (ptC (atP (ds (sdC a)).Y (ds (sdC a)).o)))))) (dr (rpC (rtimP (db (byC K)) (dr (rpC (ratP ((ds (sdC a)).Y % pr) (ds (sdC a)).o))))))) = true)) ∧ True) ∧ True) ∧ True) ∧ True)) := by kernel_rfl
set_option maxHeartbeats 4000000 in
theorem tiT_p (K : Int) (a : Sd) (hK : Ok K) (ha : Ok a.Y) (h0 : (twoB (a)) = true) (h1 : (isB ((timP (K) ((atP (a).Y (a).o)))) ((rtimP (K) ((ratP ((a).Y % pr) (a).o))))) = true) : Pure Try.prog 3 #[.agg (byC K), .agg (sdC a)] (.bool true) := by
  have h0 : (twoB (ds (sdC a))) = true := by
    simp only [nm_mod, nn_mod, nm_inv, nn_inv, nm_d, nn_d, nm_1, nn_1, nm_root, nn_quo, ds_sdC _ ha, db_byC _ hK, dp_ptC _ (ok4_at a.Y a.o ha), dr_rpC _ (nu3_atM a.Y a.o), dp_ptC _ (ok4_tim _ _), dr_rpC _ (nu3_tim _ _)]
    exact h0
  have h1 : (isB (dp (ptC (timP (db (byC K)) (dp (ptC (atP (ds (sdC a)).Y (ds (sdC a)).o)))))) (dr (rpC (rtimP (db (byC K)) (dr (rpC (ratP ((ds (sdC a)).Y % pr) (ds (sdC a)).o))))))) = true := by
    simp only [nm_mod, nn_mod, nm_inv, nn_inv, nm_d, nn_d, nm_1, nn_1, nm_root, nn_quo, ds_sdC _ ha, db_byC _ hK, dp_ptC _ (ok4_at a.Y a.o ha), dr_rpC _ (nu3_atM a.Y a.o), dp_ptC _ (ok4_tim _ _), dr_rpC _ (nu3_tim _ _)]
    exact h1
  exact pure_of mixed Try.func3 _ (tiT_0 K a) rfl ⟨⟨⟨⟨⟨⟨⟨⟨⟨⟨⟨⟨⟨⟨⟨⟨⟨⟨⟨⟨⟨⟨⟨trivial, trivial⟩, trivial⟩, (sdD.is_enc (ha))⟩, trivial⟩, trivial⟩, trivial⟩, ⟨trivial, h0⟩⟩, ptC_one _⟩, rpC_one _⟩, trivial⟩, trivial⟩, trivial⟩, trivial⟩, trivial⟩, ⟨(byD.is_enc (hK)), (ptD.is_enc (ok4_atS (ha)))⟩⟩, trivial⟩, trivial⟩, ⟨(byD.is_enc (hK)), (rpD.is_enc (nu3_atM _ _))⟩⟩, ⟨⟨(ptD.is_enc (ok4_tim _ _)), (rpD.is_enc (nu3_tim _ _))⟩, h1⟩⟩, trivial⟩, trivial⟩, trivial⟩, trivial⟩
def tiF_h (i : Nat) : Hn := if i = 4 then ⟨11, [], [], [], []⟩ else ⟨0, [], [], [], []⟩
theorem tiF_0 (K : Int) (a : Sd) : evF (yty.en tab8) tiF_h Try.f3 [.agg (byC K), .agg (sdC a)] [some (.bool false)] = some (.bool true, ((((((((((((((True ∧ True) ∧ True) ∧ sdD.is (sdC a)) ∧ True) ∧ True) ∧ True) ∧ (True ∧ (twoB (ds (sdC a))) = false)) ∧ ((ptC (atP (ds (sdC a)).Y (ds (sdC a)).o)).all (fun v => v.oneCell') = true)) ∧ ((rpC (ratP ((ds (sdC a)).Y % pr) (ds (sdC a)).o)).all (fun v => v.oneCell') = true)) ∧ True) ∧ True) ∧ True) ∧ True) ∧ True)) := by kernel_rfl
set_option maxHeartbeats 4000000 in
theorem tiF_p (K : Int) (a : Sd) (hK : Ok K) (ha : Ok a.Y) (h0 : (twoB (a)) = false) : Pure Try.prog 3 #[.agg (byC K), .agg (sdC a)] (.bool true) := by
  have h0 : (twoB (ds (sdC a))) = false := by
    simp only [nm_mod, nn_mod, nm_inv, nn_inv, nm_d, nn_d, nm_1, nn_1, nm_root, nn_quo, ds_sdC _ ha]
    exact h0
  exact pure_of mixed Try.func3 _ (tiF_0 K a) rfl ⟨⟨⟨⟨⟨⟨⟨⟨⟨⟨⟨⟨⟨⟨trivial, trivial⟩, trivial⟩, (sdD.is_enc (ha))⟩, trivial⟩, trivial⟩, trivial⟩, ⟨trivial, h0⟩⟩, ptC_one _⟩, rpC_one _⟩, trivial⟩, trivial⟩, trivial⟩, trivial⟩, trivial⟩
theorem times_c (K : Int) (a : Sd) (hK : Ok K) (ha : Ok a.Y) : Pure Try.prog 3 #[.agg (byC K), .agg (sdC a)] (.bool true) := by
  cases h : twoB a with
  | false => exact tiF_p K a hK ha h
  | true =>
    obtain ⟨x, p, n⟩ := at_rep a.Y a.o ha (two_B h)
    exact tiT_p K a hK ha h (is_true (rep_tim hK p) (repn_tim hK n))
end Go.Proofs.Ytlbofcgjdbfenaa
