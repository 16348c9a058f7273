import Derived.Test.YtbjllhcjbblojaaZRSardRiTAll
set_option linter.unusedSimpArgs false
set_option linter.unusedVariables false
namespace Go.Proofs.Ytbjllhcjbblojaa
open Go.RowKit Go.Ev
def tab16 : List (Entry Try.prog) := tab15
def tab17 : List (Entry Try.prog) := tab16
theorem db_encI (p : P4) : db (byC (encI p)) = encI p := db_byC _ (ok_encI p)
theorem dp_dec (n : Int) : dp (ptC (decI n)) = decI n := dp_ptC _ (ok4_dec n)
def kn4_h (i : Nat) : Hn := if i = 3 then ⟨22, [], [], [], []⟩ else ⟨0, [], [], [], []⟩
theorem kn4_0  : evF (yty.en tab17) kn4_h Try.f13 [] [some (.bool true), none, some (.bool true), none, some (.bool true), none, some (.bool true), some (.bool true)] = some (.bool true, (((((((((((((((((((((((((((((((((True ∧ True) ∧ True) ∧ ptD.is (ptC (ofP bxN byN))) ∧ ((byC (encI (dp (ptC (ofP bxN byN))))).all (fun v => v.oneCell') = true)) ∧ True) ∧ byD.is (byC (encI (dp (ptC (ofP bxN byN)))))) ∧ True) ∧ True) ∧ (True ∧ (decB (db (byC (encI (dp (ptC (ofP bxN byN))))))) = true)) ∧ ((ptC (decI (db (byC (encI (dp (ptC (ofP bxN byN)))))))).all (fun v => v.oneCell') = true)) ∧ True) ∧ ((0 : Int) ≤ 0 ∧ (0 : Int) < ((32 : Nat) : Int))) ∧ True) ∧ (True ∧ (decide ((if 0 < 32 then byt (encI (dp (ptC (ofP bxN byN)))) 0 else 0) = 226)) = true)) ∧ True) ∧ ((0 : Int) ≤ 1 ∧ (1 : Int) < ((32 : Nat) : Int))) ∧ True) ∧ (True ∧ (decide ((if 1 < 32 then byt (encI (dp (ptC (ofP bxN byN)))) 1 else 0) = 242)) = true)) ∧ True) ∧ True) ∧ ((0 : Int) ≤ 31 ∧ (31 : Int) < ((32 : Nat) : Int))) ∧ True) ∧ (True ∧ (decide ((if 31 < 32 then byt (encI (dp (ptC (ofP bxN byN)))) 31 else 0) = 118)) = true)) ∧ True) ∧ True) ∧ True) ∧ True) ∧ True) ∧ True) ∧ True) ∧ ((ptD.is (ptC (decI (db (byC (encI (dp (ptC (ofP bxN byN)))))))) ∧ ptD.is (ptC (ofP bxN byN))) ∧ (eqB (dp (ptC (decI (db (byC (encI (dp (ptC (ofP bxN byN))))))))) (dp (ptC (ofP bxN byN)))) = true)) ∧ True) ∧ True)) := by kernel_rfl
set_option maxHeartbeats 4000000 in
theorem kn4_p   (h0 : (decB ((encI ((ofP bxN byN))))) = true) (h1 : (decide ((if 0 < 32 then byt (encI ((ofP bxN byN))) 0 else 0) = 226)) = true) (h2 : (decide ((if 1 < 32 then byt (encI ((ofP bxN byN))) 1 else 0) = 242)) = true) (h3 : (decide ((if 31 < 32 then byt (encI ((ofP bxN byN))) 31 else 0) = 118)) = true) (h4 : (eqB ((decI ((encI ((ofP bxN byN)))))) ((ofP bxN byN))) = true) : Pure Try.prog 13 #[] (.bool true) := by
  have h0 : (decB (db (byC (encI (dp (ptC (ofP bxN byN))))))) = true := by
    simp only [nm_mod, nn_mod, nm_inv, nn_inv, nm_d, nn_d, nm_1, nn_1, nm_root, nn_quo, dp_ptC _ ok4_base, db_encI, dp_dec]
    first | exact h0 | simp
  have h1 : (decide ((if 0 < 32 then byt (encI (dp (ptC (ofP bxN byN)))) 0 else 0) = 226)) = true := by
    simp only [nm_mod, nn_mod, nm_inv, nn_inv, nm_d, nn_d, nm_1, nn_1, nm_root, nn_quo, dp_ptC _ ok4_base, db_encI, dp_dec]
    first | exact h1 | simp
  have h2 : (decide ((if 1 < 32 then byt (encI (dp (ptC (ofP bxN byN)))) 1 else 0) = 242)) = true := by
    simp only [nm_mod, nn_mod, nm_inv, nn_inv, nm_d, nn_d, nm_1, nn_1, nm_root, nn_quo, dp_ptC _ ok4_base, db_encI, dp_dec]
    first | exact h2 | simp
  have h3 : (decide ((if 31 < 32 then byt (encI (dp (ptC (ofP bxN byN)))) 31 else 0) = 118)) = true := by
    simp only [nm_mod, nn_mod, nm_inv, nn_inv, nm_d, nn_d, nm_1, nn_1, nm_root, nn_quo, dp_ptC _ ok4_base, db_encI, dp_dec]
    first | exact h3 | simp
  have h4 : (eqB (dp (ptC (decI (db (byC (encI (dp (ptC (ofP bxN byN))))))))) (dp (ptC (ofP bxN byN)))) = true := by
    simp only [nm_mod, nn_mod, nm_inv, nn_inv, nm_d, nn_d, nm_1, nn_1, nm_root, nn_quo, dp_ptC _ ok4_base, db_encI, dp_dec]
    first | exact h4 | simp
  exact pure_of mixed Try.func13 _ (kn4_0) rfl ⟨⟨⟨⟨⟨⟨⟨⟨⟨⟨⟨⟨⟨⟨⟨⟨⟨⟨⟨⟨⟨⟨⟨⟨⟨⟨⟨⟨⟨⟨⟨⟨⟨trivial, trivial⟩, trivial⟩, (ptD.is_enc (ok4_base))⟩, byK_one _ _⟩, trivial⟩, (byD.is_enc (ok_encI _))⟩, trivial⟩, trivial⟩, ⟨trivial, h0⟩⟩, ptC_one _⟩, trivial⟩, ⟨by decide, by decide⟩⟩, trivial⟩, ⟨trivial, h1⟩⟩, trivial⟩, ⟨by decide, by decide⟩⟩, trivial⟩, ⟨trivial, h2⟩⟩, trivial⟩, trivial⟩, ⟨by decide, by decide⟩⟩, trivial⟩, ⟨trivial, h3⟩⟩, trivial⟩, trivial⟩, trivial⟩, trivial⟩, trivial⟩, trivial⟩, trivial⟩, ⟨⟨(ptD.is_enc (ok4_dec _)), (ptD.is_enc (ok4_base))⟩, h4⟩⟩, trivial⟩, trivial⟩
theorem LKnown4_c : Pure Try.prog 13 #[] (.bool true) := by
  have e := encI_base
  have e2 := enc_repP rep_base
  refine kn4_p ?_ ?_ ?_ ?_ ?_
  · rw [e2]; exact decB_enc evn_base
  · rw [e]; kernel_rfl
  · rw [e]; kernel_rfl
  · rw [e]; kernel_rfl
  · rw [e2, eqB_iff (dec_enc_rep evn_base) rep_base]
    exact eq_can base
def lKnown4 : Entry Try.prog := ent0 Try.func13 (by kernel_rfl) (by kernel_rfl) (.bool true) LKnown4_c
def tab18 : List (Entry Try.prog) := lKnown4 :: tab17
end Go.Proofs.Ytbjllhcjbblojaa
