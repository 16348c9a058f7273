import Derived.Test.YtlbofcgjdbfenabRiL1
set_option linter.unusedSimpArgs false
set_option linter.unusedVariables false
namespace Go.Proofs.Ytlbofcgjdbfenab
open Go.RowKit Go.Ev
def yP (a : Sd) : P4 := addP (atP a.Y a.o) (atP a.Y a.o)
def th1_h (i : Nat) : Hn := if i = 2 then ⟨12, [], [], [], []⟩ else if i = 11 then ⟨17, [], [], [], []⟩ else ⟨0, [], [], [], []⟩
theorem th1_0 (n : Int) (a : Sd) : evF (yty.en tab18) th1_h Try.f4 [.agg (byC n), .agg (sdC a)] [some false, none, some false, none] = some (.bool true, (((((((((((((((((((((((((True ∧ True) ∧ True) ∧ byD.is (byC n)) ∧ True) ∧ True) ∧ (True ∧ (decB (db (byC n))) = false)) ∧ ((ptC (decI (db (byC n)))).all (fun v => v.oneCell') = true)) ∧ True) ∧ True) ∧ True) ∧ True) ∧ True) ∧ True) ∧ True) ∧ True) ∧ feD.is (feC a.Y)) ∧ True) ∧ True) ∧ (True ∧ (atB (nm (feC a.Y)) (a.o)) = false)) ∧ ((ptC (atP (nm (feC a.Y)) (a.o))).all (fun v => v.oneCell') = true)) ∧ True) ∧ True) ∧ True) ∧ True) ∧ True)) := by kernel_rfl
set_option maxHeartbeats 4000000 in
theorem th1_p (n : Int) (a : Sd) (hn : Ok n) (ha : Ok a.Y) (h0 : (decB (n)) = false) (h2 : (atB (a.Y) (a.o)) = false) : Pure Try.prog 4 #[.agg (byC n), .agg (sdC a)] (.bool true) := by
  have h0 : (decB (db (byC n))) = false := by
    simp only [nm_mod, nn_mod, nm_inv, nn_inv, nm_d, nn_d, nm_1, nn_1, nm_root, nn_quo, db_byC _ hn, nm_feC _ ha]
    exact h0
  have h2 : (atB (nm (feC a.Y)) (a.o)) = false := by
    simp only [nm_mod, nn_mod, nm_inv, nn_inv, nm_d, nn_d, nm_1, nn_1, nm_root, nn_quo, db_byC _ hn, nm_feC _ ha]
    exact h2
  exact pure_of mixed Try.func4 _ (th1_0 n a) rfl ⟨⟨⟨⟨⟨⟨⟨⟨⟨⟨⟨⟨⟨⟨⟨⟨⟨⟨⟨⟨⟨⟨⟨⟨⟨trivial, trivial⟩, trivial⟩, (byD.is_enc (hn))⟩, trivial⟩, trivial⟩, ⟨trivial, h0⟩⟩, ptC_one _⟩, trivial⟩, trivial⟩, trivial⟩, trivial⟩, trivial⟩, trivial⟩, trivial⟩, trivial⟩, (feD.is_enc (ha))⟩, trivial⟩, trivial⟩, ⟨trivial, h2⟩⟩, ptC_one _⟩, trivial⟩, trivial⟩, trivial⟩, trivial⟩, trivial⟩
def th2_h (i : Nat) : Hn := if i = 2 then ⟨12, [], [], [], []⟩ else if i = 11 then ⟨17, [], [], [], []⟩ else ⟨0, [], [], [], []⟩
theorem th2_0 (n : Int) (a : Sd) : evF (yty.en tab18) th2_h Try.f4 [.agg (byC n), .agg (sdC a)] [some false, none, some true, some true, some true, none] = some (.bool true, (((((((((((((((((((((((((((((((((((((((((((((((((((True ∧ True) ∧ True) ∧ byD.is (byC n)) ∧ True) ∧ True) ∧ (True ∧ (decB (db (byC n))) = false)) ∧ ((ptC (decI (db (byC n)))).all (fun v => v.oneCell') = true)) ∧ True) ∧ True) ∧ True) ∧ True) ∧ True) ∧ True) ∧ True) ∧ True) ∧ feD.is (feC a.Y)) ∧ True) ∧ True) ∧ (True ∧ (atB (nm (feC a.Y)) (a.o)) = true)) ∧ ((ptC (atP (nm (feC a.Y)) (a.o))).all (fun v => v.oneCell') = true)) ∧ True) ∧ True) ∧ True) ∧ True) ∧ True) ∧ (ptD.is (ptC (atP (nm (feC a.Y)) (a.o))) ∧ ptD.is (ptC (atP (nm (feC a.Y)) (a.o))))) ∧ ((ptC (addP (dp (ptC (atP (nm (feC a.Y)) (a.o)))) (dp (ptC (atP (nm (feC a.Y)) (a.o)))))).all (fun v => v.oneCell') = true)) ∧ True) ∧ ptD.is (ptC (addP (dp (ptC (atP (nm (feC a.Y)) (a.o)))) (dp (ptC (atP (nm (feC a.Y)) (a.o))))))) ∧ byD.is (byC (encI (dp (ptC (addP (dp (ptC (atP (nm (feC a.Y)) (a.o)))) (dp (ptC (atP (nm (feC a.Y)) (a.o)))))))))) ∧ True) ∧ True) ∧ (True ∧ (decB (db (byC (encI (dp (ptC (addP (dp (ptC (atP (nm (feC a.Y)) (a.o)))) (dp (ptC (atP (nm (feC a.Y)) (a.o))))))))))) = true)) ∧ ((ptC (decI (db (byC (encI (dp (ptC (addP (dp (ptC (atP (nm (feC a.Y)) (a.o)))) (dp (ptC (atP (nm (feC a.Y)) (a.o)))))))))))).all (fun v => v.oneCell') = true)) ∧ True) ∧ True) ∧ True) ∧ True) ∧ True) ∧ True) ∧ ((ptD.is (ptC (decI (db (byC (encI (dp (ptC (addP (dp (ptC (atP (nm (feC a.Y)) (a.o)))) (dp (ptC (atP (nm (feC a.Y)) (a.o)))))))))))) ∧ ptD.is (ptC (addP (dp (ptC (atP (nm (feC a.Y)) (a.o)))) (dp (ptC (atP (nm (feC a.Y)) (a.o))))))) ∧ (eqB (dp (ptC (decI (db (byC (encI (dp (ptC (addP (dp (ptC (atP (nm (feC a.Y)) (a.o)))) (dp (ptC (atP (nm (feC a.Y)) (a.o))))))))))))) (dp (ptC (addP (dp (ptC (atP (nm (feC a.Y)) (a.o)))) (dp (ptC (atP (nm (feC a.Y)) (a.o)))))))) = true)) ∧ True) ∧ True) ∧ True) ∧ True) ∧ True) ∧ True) ∧ True) ∧ True) ∧ True) ∧ True)) := by kernel_rfl
set_option maxHeartbeats 4000000 in
theorem th2_p (n : Int) (a : Sd) (hn : Ok n) (ha : Ok a.Y) (h0 : (decB (n)) = false) (h2 : (atB (a.Y) (a.o)) = true) (h3 : (decB ((encI ((addP ((atP (a.Y) (a.o))) ((atP (a.Y) (a.o)))))))) = true) (h4 : (eqB ((decI ((encI ((addP ((atP (a.Y) (a.o))) ((atP (a.Y) (a.o))))))))) ((addP ((atP (a.Y) (a.o))) ((atP (a.Y) (a.o)))))) = true) : Pure Try.prog 4 #[.agg (byC n), .agg (sdC a)] (.bool true) := by
  have h0 : (decB (db (byC n))) = false := by
    simp only [nm_mod, nn_mod, nm_inv, nn_inv, nm_d, nn_d, nm_1, nn_1, nm_root, nn_quo, db_byC _ hn, nm_feC _ ha, dp_ptC _ (ok4_at a.Y a.o ha), dp_ptC _ (ok4_add _ _), db_encI, dp_dec]
    exact h0
  have h2 : (atB (nm (feC a.Y)) (a.o)) = true := by
    simp only [nm_mod, nn_mod, nm_inv, nn_inv, nm_d, nn_d, nm_1, nn_1, nm_root, nn_quo, db_byC _ hn, nm_feC _ ha, dp_ptC _ (ok4_at a.Y a.o ha), dp_ptC _ (ok4_add _ _), db_encI, dp_dec]
    exact h2
  have h3 : (decB (db (byC (encI (dp (ptC (addP (dp (ptC (atP (nm (feC a.Y)) (a.o)))) (dp (ptC (atP (nm (feC a.Y)) (a.o))))))))))) = true := by
    simp only [nm_mod, nn_mod, nm_inv, nn_inv, nm_d, nn_d, nm_1, nn_1, nm_root, nn_quo, db_byC _ hn, nm_feC _ ha, dp_ptC _ (ok4_at a.Y a.o ha), dp_ptC _ (ok4_add _ _), db_encI, dp_dec]
    exact h3
  have h4 : (eqB (dp (ptC (decI (db (byC (encI (dp (ptC (addP (dp (ptC (atP (nm (feC a.Y)) (a.o)))) (dp (ptC (atP (nm (feC a.Y)) (a.o))))))))))))) (dp (ptC (addP (dp (ptC (atP (nm (feC a.Y)) (a.o)))) (dp (ptC (atP (nm (feC a.Y)) (a.o)))))))) = true := by
    simp only [nm_mod, nn_mod, nm_inv, nn_inv, nm_d, nn_d, nm_1, nn_1, nm_root, nn_quo, db_byC _ hn, nm_feC _ ha, dp_ptC _ (ok4_at a.Y a.o ha), dp_ptC _ (ok4_add _ _), db_encI, dp_dec]
    exact h4
  exact pure_of mixed Try.func4 _ (th2_0 n a) rfl ⟨⟨⟨⟨⟨⟨⟨⟨⟨⟨⟨⟨⟨⟨⟨⟨⟨⟨⟨⟨⟨⟨⟨⟨⟨⟨⟨⟨⟨⟨⟨⟨⟨⟨⟨⟨⟨⟨⟨⟨⟨⟨⟨⟨⟨⟨⟨⟨⟨⟨⟨trivial, trivial⟩, trivial⟩, (byD.is_enc (hn))⟩, trivial⟩, trivial⟩, ⟨trivial, h0⟩⟩, ptC_one _⟩, trivial⟩, trivial⟩, trivial⟩, trivial⟩, trivial⟩, trivial⟩, trivial⟩, trivial⟩, (feD.is_enc (ha))⟩, trivial⟩, trivial⟩, ⟨trivial, h2⟩⟩, ptC_one _⟩, trivial⟩, trivial⟩, trivial⟩, trivial⟩, trivial⟩, ⟨(ptD.is_enc (ok4_atD _ (ha))), (ptD.is_enc (ok4_atD _ (ha)))⟩⟩, ptC_one _⟩, trivial⟩, (ptD.is_enc (ok4_add _ _))⟩, (byD.is_enc (ok_encI _))⟩, trivial⟩, trivial⟩, ⟨trivial, h3⟩⟩, ptC_one _⟩, trivial⟩, trivial⟩, trivial⟩, trivial⟩, trivial⟩, trivial⟩, ⟨⟨(ptD.is_enc (ok4_dec _)), (ptD.is_enc (ok4_add _ _))⟩, h4⟩⟩, trivial⟩, trivial⟩, trivial⟩, trivial⟩, trivial⟩, trivial⟩, trivial⟩, trivial⟩, trivial⟩, trivial⟩
def th3_h (i : Nat) : Hn := if i = 2 then ⟨12, [], [], [], []⟩ else if i = 11 then ⟨17, [], [], [], []⟩ else ⟨0, [], [], [], []⟩
theorem th3_0 (n : Int) (a : Sd) : evF (yty.en tab18) th3_h Try.f4 [.agg (byC n), .agg (sdC a)] [some true, some false, some true, none, some false, none] = some (.bool true, ((((((((((((((((((((((((((((((((((True ∧ True) ∧ True) ∧ byD.is (byC n)) ∧ True) ∧ True) ∧ (True ∧ (decB (db (byC n))) = true)) ∧ ((ptC (decI (db (byC n)))).all (fun v => v.oneCell') = true)) ∧ True) ∧ True) ∧ True) ∧ True) ∧ ptD.is (ptC (decI (db (byC n))))) ∧ True) ∧ ((byD.is (byC (encI (dp (ptC (decI (db (byC n))))))) ∧ byD.is (byC n)) ∧ (!(decide (db (byC (encI (dp (ptC (decI (db (byC n))))))) = db (byC n)))) = false)) ∧ True) ∧ True) ∧ (ptD.is (ptC (decI (db (byC n)))) ∧ (decide (onQ (dp (ptC (decI (db (byC n))))))) = true)) ∧ True) ∧ True) ∧ True) ∧ True) ∧ True) ∧ True) ∧ True) ∧ feD.is (feC a.Y)) ∧ True) ∧ True) ∧ (True ∧ (atB (nm (feC a.Y)) (a.o)) = false)) ∧ ((ptC (atP (nm (feC a.Y)) (a.o))).all (fun v => v.oneCell') = true)) ∧ True) ∧ True) ∧ True) ∧ True) ∧ True)) := by kernel_rfl
set_option maxHeartbeats 4000000 in
theorem th3_p (n : Int) (a : Sd) (hn : Ok n) (ha : Ok a.Y) (h0 : (decB (n)) = true) (h1 : (!(decide ((encI ((decI (n)))) = n))) = false) (h2 : (decide (onQ ((decI (n))))) = true) (h4 : (atB (a.Y) (a.o)) = false) : Pure Try.prog 4 #[.agg (byC n), .agg (sdC a)] (.bool true) := by
  have h0 : (decB (db (byC n))) = true := by
    simp only [nm_mod, nn_mod, nm_inv, nn_inv, nm_d, nn_d, nm_1, nn_1, nm_root, nn_quo, db_byC _ hn, nm_feC _ ha, db_encI, dp_dec]
    exact h0
  have h1 : (!(decide (db (byC (encI (dp (ptC (decI (db (byC n))))))) = db (byC n)))) = false := by
    simp only [nm_mod, nn_mod, nm_inv, nn_inv, nm_d, nn_d, nm_1, nn_1, nm_root, nn_quo, db_byC _ hn, nm_feC _ ha, db_encI, dp_dec]
    exact h1
  have h2 : (decide (onQ (dp (ptC (decI (db (byC n))))))) = true := by
    simp only [nm_mod, nn_mod, nm_inv, nn_inv, nm_d, nn_d, nm_1, nn_1, nm_root, nn_quo, db_byC _ hn, nm_feC _ ha, db_encI, dp_dec]
    exact h2
  have h4 : (atB (nm (feC a.Y)) (a.o)) = false := by
    simp only [nm_mod, nn_mod, nm_inv, nn_inv, nm_d, nn_d, nm_1, nn_1, nm_root, nn_quo, db_byC _ hn, nm_feC _ ha, db_encI, dp_dec]
    exact h4
  exact pure_of mixed Try.func4 _ (th3_0 n a) rfl ⟨⟨⟨⟨⟨⟨⟨⟨⟨⟨⟨⟨⟨⟨⟨⟨⟨⟨⟨⟨⟨⟨⟨⟨⟨⟨⟨⟨⟨⟨⟨⟨⟨⟨trivial, trivial⟩, trivial⟩, (byD.is_enc (hn))⟩, trivial⟩, trivial⟩, ⟨trivial, h0⟩⟩, ptC_one _⟩, trivial⟩, trivial⟩, trivial⟩, trivial⟩, (ptD.is_enc (ok4_dec _))⟩, trivial⟩, ⟨⟨(byD.is_enc (ok_encI _)), (byD.is_enc (hn))⟩, h1⟩⟩, trivial⟩, trivial⟩, ⟨(ptD.is_enc (ok4_dec _)), h2⟩⟩, trivial⟩, trivial⟩, trivial⟩, trivial⟩, trivial⟩, trivial⟩, trivial⟩, (feD.is_enc (ha))⟩, trivial⟩, trivial⟩, ⟨trivial, h4⟩⟩, ptC_one _⟩, trivial⟩, trivial⟩, trivial⟩, trivial⟩, trivial⟩
def th4_h (i : Nat) : Hn := if i = 2 then ⟨12, [], [], [], []⟩ else if i = 11 then ⟨17, [], [], [], []⟩ else ⟨0, [], [], [], []⟩
theorem th4_0 (n : Int) (a : Sd) : evF (yty.en tab18) th4_h Try.f4 [.agg (byC n), .agg (sdC a)] [some true, some false, some true, none, some true, some true, some true, some true, none] = some (.bool true, (((((((((((((((((((((((((((((((((((((((((((((((((((((((((((((((((((((True ∧ True) ∧ True) ∧ byD.is (byC n)) ∧ True) ∧ True) ∧ (True ∧ (decB (db (byC n))) = true)) ∧ ((ptC (decI (db (byC n)))).all (fun v => v.oneCell') = true)) ∧ True) ∧ True) ∧ True) ∧ True) ∧ ptD.is (ptC (decI (db (byC n))))) ∧ True) ∧ ((byD.is (byC (encI (dp (ptC (decI (db (byC n))))))) ∧ byD.is (byC n)) ∧ (!(decide (db (byC (encI (dp (ptC (decI (db (byC n))))))) = db (byC n)))) = false)) ∧ True) ∧ True) ∧ (ptD.is (ptC (decI (db (byC n)))) ∧ (decide (onQ (dp (ptC (decI (db (byC n))))))) = true)) ∧ True) ∧ True) ∧ True) ∧ True) ∧ True) ∧ True) ∧ True) ∧ feD.is (feC a.Y)) ∧ True) ∧ True) ∧ (True ∧ (atB (nm (feC a.Y)) (a.o)) = true)) ∧ ((ptC (atP (nm (feC a.Y)) (a.o))).all (fun v => v.oneCell') = true)) ∧ True) ∧ True) ∧ True) ∧ True) ∧ True) ∧ (ptD.is (ptC (atP (nm (feC a.Y)) (a.o))) ∧ ptD.is (ptC (atP (nm (feC a.Y)) (a.o))))) ∧ ((ptC (addP (dp (ptC (atP (nm (feC a.Y)) (a.o)))) (dp (ptC (atP (nm (feC a.Y)) (a.o)))))).all (fun v => v.oneCell') = true)) ∧ True) ∧ ptD.is (ptC (addP (dp (ptC (atP (nm (feC a.Y)) (a.o)))) (dp (ptC (atP (nm (feC a.Y)) (a.o))))))) ∧ byD.is (byC (encI (dp (ptC (addP (dp (ptC (atP (nm (feC a.Y)) (a.o)))) (dp (ptC (atP (nm (feC a.Y)) (a.o)))))))))) ∧ True) ∧ True) ∧ (True ∧ (decB (db (byC (encI (dp (ptC (addP (dp (ptC (atP (nm (feC a.Y)) (a.o)))) (dp (ptC (atP (nm (feC a.Y)) (a.o))))))))))) = true)) ∧ ((ptC (decI (db (byC (encI (dp (ptC (addP (dp (ptC (atP (nm (feC a.Y)) (a.o)))) (dp (ptC (atP (nm (feC a.Y)) (a.o)))))))))))).all (fun v => v.oneCell') = true)) ∧ True) ∧ True) ∧ True) ∧ True) ∧ True) ∧ True) ∧ ((ptD.is (ptC (decI (db (byC (encI (dp (ptC (addP (dp (ptC (atP (nm (feC a.Y)) (a.o)))) (dp (ptC (atP (nm (feC a.Y)) (a.o)))))))))))) ∧ ptD.is (ptC (addP (dp (ptC (atP (nm (feC a.Y)) (a.o)))) (dp (ptC (atP (nm (feC a.Y)) (a.o))))))) ∧ (eqB (dp (ptC (decI (db (byC (encI (dp (ptC (addP (dp (ptC (atP (nm (feC a.Y)) (a.o)))) (dp (ptC (atP (nm (feC a.Y)) (a.o))))))))))))) (dp (ptC (addP (dp (ptC (atP (nm (feC a.Y)) (a.o)))) (dp (ptC (atP (nm (feC a.Y)) (a.o)))))))) = true)) ∧ True) ∧ True) ∧ True) ∧ True) ∧ True) ∧ True) ∧ True) ∧ (ptD.is (ptC (decI (db (byC n)))) ∧ ptD.is (ptC (addP (dp (ptC (atP (nm (feC a.Y)) (a.o)))) (dp (ptC (atP (nm (feC a.Y)) (a.o)))))))) ∧ ptD.is (ptC (addP (dp (ptC (decI (db (byC n))))) (dp (ptC (addP (dp (ptC (atP (nm (feC a.Y)) (a.o)))) (dp (ptC (atP (nm (feC a.Y)) (a.o)))))))))) ∧ True) ∧ True) ∧ (ptD.is (ptC (decI (db (byC n)))) ∧ ptD.is (ptC (decI (db (byC (encI (dp (ptC (addP (dp (ptC (atP (nm (feC a.Y)) (a.o)))) (dp (ptC (atP (nm (feC a.Y)) (a.o)))))))))))))) ∧ ptD.is (ptC (addP (dp (ptC (decI (db (byC n))))) (dp (ptC (decI (db (byC (encI (dp (ptC (addP (dp (ptC (atP (nm (feC a.Y)) (a.o)))) (dp (ptC (atP (nm (feC a.Y)) (a.o)))))))))))))))) ∧ ((byD.is (byC (encI (dp (ptC (addP (dp (ptC (decI (db (byC n))))) (dp (ptC (addP (dp (ptC (atP (nm (feC a.Y)) (a.o)))) (dp (ptC (atP (nm (feC a.Y)) (a.o)))))))))))) ∧ byD.is (byC (encI (dp (ptC (addP (dp (ptC (decI (db (byC n))))) (dp (ptC (decI (db (byC (encI (dp (ptC (addP (dp (ptC (atP (nm (feC a.Y)) (a.o)))) (dp (ptC (atP (nm (feC a.Y)) (a.o))))))))))))))))))) ∧ (decide (db (byC (encI (dp (ptC (addP (dp (ptC (decI (db (byC n))))) (dp (ptC (addP (dp (ptC (atP (nm (feC a.Y)) (a.o)))) (dp (ptC (atP (nm (feC a.Y)) (a.o)))))))))))) = db (byC (encI (dp (ptC (addP (dp (ptC (decI (db (byC n))))) (dp (ptC (decI (db (byC (encI (dp (ptC (addP (dp (ptC (atP (nm (feC a.Y)) (a.o)))) (dp (ptC (atP (nm (feC a.Y)) (a.o)))))))))))))))))))) = true)) ∧ True) ∧ True) ∧ True) ∧ True) ∧ True)) := by kernel_rfl
set_option maxHeartbeats 4000000 in
theorem th4_p (n : Int) (a : Sd) (hn : Ok n) (ha : Ok a.Y) (h0 : (decB (n)) = true) (h1 : (!(decide ((encI ((decI (n)))) = n))) = false) (h2 : (decide (onQ ((decI (n))))) = true) (h4 : (atB (a.Y) (a.o)) = true) (h5 : (decB ((encI ((addP ((atP (a.Y) (a.o))) ((atP (a.Y) (a.o)))))))) = true) (h6 : (eqB ((decI ((encI ((addP ((atP (a.Y) (a.o))) ((atP (a.Y) (a.o))))))))) ((addP ((atP (a.Y) (a.o))) ((atP (a.Y) (a.o)))))) = true) (h7 : (decide ((encI ((addP ((decI (n))) ((addP ((atP (a.Y) (a.o))) ((atP (a.Y) (a.o)))))))) = (encI ((addP ((decI (n))) ((decI ((encI ((addP ((atP (a.Y) (a.o))) ((atP (a.Y) (a.o)))))))))))))) = true) : Pure Try.prog 4 #[.agg (byC n), .agg (sdC a)] (.bool true) := by
  have h0 : (decB (db (byC n))) = true := by
    simp only [nm_mod, nn_mod, nm_inv, nn_inv, nm_d, nn_d, nm_1, nn_1, nm_root, nn_quo, db_byC _ hn, nm_feC _ ha, dp_ptC _ (ok4_at a.Y a.o ha), dp_ptC _ (ok4_add _ _), db_encI, dp_dec]
    exact h0
  have h1 : (!(decide (db (byC (encI (dp (ptC (decI (db (byC n))))))) = db (byC n)))) = false := by
    simp only [nm_mod, nn_mod, nm_inv, nn_inv, nm_d, nn_d, nm_1, nn_1, nm_root, nn_quo, db_byC _ hn, nm_feC _ ha, dp_ptC _ (ok4_at a.Y a.o ha), dp_ptC _ (ok4_add _ _), db_encI, dp_dec]
    exact h1
  have h2 : (decide (onQ (dp (ptC (decI (db (byC n))))))) = true := by
    simp only [nm_mod, nn_mod, nm_inv, nn_inv, nm_d, nn_d, nm_1, nn_1, nm_root, nn_quo, db_byC _ hn, nm_feC _ ha, dp_ptC _ (ok4_at a.Y a.o ha), dp_ptC _ (ok4_add _ _), db_encI, dp_dec]
    exact h2
  have h4 : (atB (nm (feC a.Y)) (a.o)) = true := by
    simp only [nm_mod, nn_mod, nm_inv, nn_inv, nm_d, nn_d, nm_1, nn_1, nm_root, nn_quo, db_byC _ hn, nm_feC _ ha, dp_ptC _ (ok4_at a.Y a.o ha), dp_ptC _ (ok4_add _ _), db_encI, dp_dec]
    exact h4
  have h5 : (decB (db (byC (encI (dp (ptC (addP (dp (ptC (atP (nm (feC a.Y)) (a.o)))) (dp (ptC (atP (nm (feC a.Y)) (a.o))))))))))) = true := by
    simp only [nm_mod, nn_mod, nm_inv, nn_inv, nm_d, nn_d, nm_1, nn_1, nm_root, nn_quo, db_byC _ hn, nm_feC _ ha, dp_ptC _ (ok4_at a.Y a.o ha), dp_ptC _ (ok4_add _ _), db_encI, dp_dec]
    exact h5
  have h6 : (eqB (dp (ptC (decI (db (byC (encI (dp (ptC (addP (dp (ptC (atP (nm (feC a.Y)) (a.o)))) (dp (ptC (atP (nm (feC a.Y)) (a.o))))))))))))) (dp (ptC (addP (dp (ptC (atP (nm (feC a.Y)) (a.o)))) (dp (ptC (atP (nm (feC a.Y)) (a.o)))))))) = true := by
    simp only [nm_mod, nn_mod, nm_inv, nn_inv, nm_d, nn_d, nm_1, nn_1, nm_root, nn_quo, db_byC _ hn, nm_feC _ ha, dp_ptC _ (ok4_at a.Y a.o ha), dp_ptC _ (ok4_add _ _), db_encI, dp_dec]
    exact h6
  have h7 : (decide (db (byC (encI (dp (ptC (addP (dp (ptC (decI (db (byC n))))) (dp (ptC (addP (dp (ptC (atP (nm (feC a.Y)) (a.o)))) (dp (ptC (atP (nm (feC a.Y)) (a.o)))))))))))) = db (byC (encI (dp (ptC (addP (dp (ptC (decI (db (byC n))))) (dp (ptC (decI (db (byC (encI (dp (ptC (addP (dp (ptC (atP (nm (feC a.Y)) (a.o)))) (dp (ptC (atP (nm (feC a.Y)) (a.o)))))))))))))))))))) = true := by
    simp only [nm_mod, nn_mod, nm_inv, nn_inv, nm_d, nn_d, nm_1, nn_1, nm_root, nn_quo, db_byC _ hn, nm_feC _ ha, dp_ptC _ (ok4_at a.Y a.o ha), dp_ptC _ (ok4_add _ _), db_encI, dp_dec]
    exact h7
  exact pure_of mixed Try.func4 _ (th4_0 n a) rfl ⟨⟨⟨⟨⟨⟨⟨⟨⟨⟨⟨⟨⟨⟨⟨⟨⟨⟨⟨⟨⟨⟨⟨⟨⟨⟨⟨⟨⟨⟨⟨⟨⟨⟨⟨⟨⟨⟨⟨⟨⟨⟨⟨⟨⟨⟨⟨⟨⟨⟨⟨⟨⟨⟨⟨⟨⟨⟨⟨⟨⟨⟨⟨⟨⟨⟨⟨⟨⟨trivial, trivial⟩, trivial⟩, (byD.is_enc (hn))⟩, trivial⟩, trivial⟩, ⟨trivial, h0⟩⟩, ptC_one _⟩, trivial⟩, trivial⟩, trivial⟩, trivial⟩, (ptD.is_enc (ok4_dec _))⟩, trivial⟩, ⟨⟨(byD.is_enc (ok_encI _)), (byD.is_enc (hn))⟩, h1⟩⟩, trivial⟩, trivial⟩, ⟨(ptD.is_enc (ok4_dec _)), h2⟩⟩, trivial⟩, trivial⟩, trivial⟩, trivial⟩, trivial⟩, trivial⟩, trivial⟩, (feD.is_enc (ha))⟩, trivial⟩, trivial⟩, ⟨trivial, h4⟩⟩, ptC_one _⟩, trivial⟩, trivial⟩, trivial⟩, trivial⟩, trivial⟩, ⟨(ptD.is_enc (ok4_atD _ (ha))), (ptD.is_enc (ok4_atD _ (ha)))⟩⟩, ptC_one _⟩, trivial⟩, (ptD.is_enc (ok4_add _ _))⟩, (byD.is_enc (ok_encI _))⟩, trivial⟩, trivial⟩, ⟨trivial, h5⟩⟩, ptC_one _⟩, trivial⟩, trivial⟩, trivial⟩, trivial⟩, trivial⟩, trivial⟩, ⟨⟨(ptD.is_enc (ok4_dec _)), (ptD.is_enc (ok4_add _ _))⟩, h6⟩⟩, trivial⟩, trivial⟩, trivial⟩, trivial⟩, trivial⟩, trivial⟩, trivial⟩, ⟨(ptD.is_enc (ok4_dec _)), (ptD.is_enc (ok4_add _ _))⟩⟩, (ptD.is_enc (ok4_add _ _))⟩, trivial⟩, trivial⟩, ⟨(ptD.is_enc (ok4_dec _)), (ptD.is_enc (ok4_dec _))⟩⟩, (ptD.is_enc (ok4_add _ _))⟩, ⟨⟨(byD.is_enc (ok_encI _)), (byD.is_enc (ok_encI _))⟩, h7⟩⟩, trivial⟩, trivial⟩, trivial⟩, trivial⟩, trivial⟩
/-- What is known of a seed's double. -/
theorem dbl_facts {a : Sd} (ha : Ok a.Y) (h : atB a.Y a.o = true) : ∃ y : Pt, Evn y ∧ RepP (addP (atP a.Y a.o) (atP a.Y a.o)) y ∧ encI (addP (atP a.Y a.o) (atP a.Y a.o)) = ((enc y).val : Int) := by
  obtain ⟨x, p, _⟩ := at_rep a.Y a.o ha h
  exact ⟨x.add x, evn_dbl x, rep_add p p, enc_repP (rep_add p p)⟩
theorem dec_facts {n : Int} (h : decB n = true) : ∃ z : Pt, Evn z ∧ RepP (decI n) z ∧ encI (decI n) = n := by
  obtain ⟨h1, h2, h3⟩ := decB_iff.1 h
  obtain ⟨hb, R⟩ := dec_rep h
  refine ⟨_, dec_evn hb, R, ?_⟩
  rw [enc_repP R, dec_enc h2 h3, fp_val]
  exact h1
theorem there_c (n : Int) (a : Sd) (hn : Ok n) (ha : Ok a.Y) : Pure Try.prog 4 #[.agg (byC n), .agg (sdC a)] (.bool true) := by
  cases h0 : decB n with
  | false =>
    cases h1 : atB a.Y a.o with
    | false => exact th1_p n a hn ha h0 h1
    | true =>
      obtain ⟨y, ey, py, e1⟩ := dbl_facts ha h1
      refine th2_p n a hn ha h0 h1 ?_ ?_
      · rw [e1]; exact decB_enc ey
      · rw [e1, eqB_iff (dec_enc_rep ey) py]; exact eq_can y
  | true =>
    obtain ⟨z, ez, pz, e0⟩ := dec_facts h0
    have q1 : (!decide (encI (decI n) = n)) = false := by rw [decide_eq_true e0]; rfl
    have q2 : decide (onQ (decI n)) = true := decide_eq_true (on_of_rep pz)
    cases h1 : atB a.Y a.o with
    | false => exact th3_p n a hn ha h0 q1 q2 h1
    | true =>
      obtain ⟨y, ey, py, e1⟩ := dbl_facts ha h1
      refine th4_p n a hn ha h0 q1 q2 h1 ?_ ?_ (decide_eq_true ?_)
      · rw [e1]; exact decB_enc ey
      · rw [e1, eqB_iff (dec_enc_rep ey) py]; exact eq_can y
      · rw [e1, enc_repP (rep_add pz py), enc_repP (rep_add pz (dec_enc_rep ey))]
        obtain ⟨_, _, _, hc⟩ := cos_add (can_cos y)
        rw [enc_cos (evn_add ez ey) (hc z)]
end Go.Proofs.Ytlbofcgjdbfenab
