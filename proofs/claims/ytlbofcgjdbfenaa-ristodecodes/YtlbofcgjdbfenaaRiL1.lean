import Derived.Test.YtlbofcgjdbfenaaRiTAll
set_option linter.unusedSimpArgs false
set_option linter.unusedVariables false
namespace Go.Proofs.Ytlbofcgjdbfenaa
open Go.RowKit Go.Ev
def lnm_h (i : Nat) : Hn := ⟨0, [], [], [], []⟩
theorem lnm_0 (A : Int) : evF (yty.en tab15) lnm_h Try.f28 [.agg (feC A)] [] = some (.agg (nuC (nm (feC A) % pr)), (((True ∧ True) ∧ feD.is (feC A)) ∧ ((nuC (nm (feC A) % pr)).all (fun v => v.oneCell') = true))) := by kernel_rfl
def lnm_F (A : Int) : Value := .agg (nuC (nm (feC A) % pr))
set_option maxHeartbeats 4000000 in
theorem lnm_p (A : Int) (hA : Ok A) : Pure Try.prog 28 #[.agg (feC A)] (lnm_F A) := by
  unfold lnm_F
  exact pure_of mixed Try.func28 _ (lnm_0 A) rfl ⟨⟨⟨trivial, trivial⟩, (feD.is_enc (hA))⟩, one_nu _⟩
def lnm_R (A : Int) : Int := A % pr
def lnm_S (A : Int) : Value := .agg (nuC (lnm_R A))
theorem lnm_e (A : Int) (hA : Ok A) : lnm_F A = lnm_S A := by
  unfold lnm_F lnm_S lnm_R
  try simp only [nm_mod, nn_mod, nm_inv, nn_inv, nm_d, nn_d, nm_1, nn_1, nm_root, nn_quo, nm_feC _ hA]
theorem LNum4_c (A : Int) (hA : Ok A) : Pure Try.prog 28 #[.agg (feC A)] (.agg (nuC (A % pr))) := by
  have h := lnm_p A hA
  rwa [lnm_e A hA] at h
def lNum4 : Entry Try.prog := ent1 Try.func28 (by kernel_rfl) (by kernel_rfl) feD (fun A : Int => .agg (nuC (A % pr))) LNum4_c
def tab16 : List (Entry Try.prog) := lNum4 :: tab15
def lis_h (i : Nat) : Hn := if i = 1 then ⟨16, [], [], [], []⟩ else ⟨0, [], [], [], []⟩
theorem lis_0 (p : P4) (q : P3) : evF (yty.en tab16) lis_h Try.f26 [.agg (ptC p), .agg (rpC q)] [some true, none] = some (.bool (rsmB (dr (rpC (⟨nm (feC p.X) % pr, nm (feC p.Y) % pr, nm (feC p.Z) % pr⟩ : P3))) (dr (rpC q))), (((((((((((((((((((((((((((((((True ∧ True) ∧ True) ∧ True) ∧ feD.is (feC p.X)) ∧ True) ∧ True) ∧ feD.is (feC p.Y)) ∧ True) ∧ True) ∧ feD.is (feC p.Z)) ∧ True) ∧ True) ∧ feD.is (feC p.T)) ∧ ((nuC (nm (feC p.X) % pr)).all (fun v => v.oneCell') = true)) ∧ ((nuC (nm (feC p.Y) % pr)).all (fun v => v.oneCell') = true)) ∧ ((nuC (nm (feC p.Z) % pr)).all (fun v => v.oneCell') = true)) ∧ ((nuC (nm (feC p.T) % pr)).all (fun v => v.oneCell') = true)) ∧ True) ∧ True) ∧ True) ∧ True) ∧ ((nuD.is (nuC (nm (feC p.X) % pr)) ∧ nuD.is (nuC (nm (feC p.Y) % pr)) ∧ nuD.is (nuC (nm (feC p.Z) % pr)) ∧ nuD.is (nuC (nm (feC p.T) % pr))) ∧ (ronB (nn (nuC (nm (feC p.X) % pr))) (nn (nuC (nm (feC p.Y) % pr))) (nn (nuC (nm (feC p.Z) % pr))) (nn (nuC (nm (feC p.T) % pr)))) = true)) ∧ True) ∧ True) ∧ True) ∧ True) ∧ True) ∧ True) ∧ (rpD.is (rpC (⟨nm (feC p.X) % pr, nm (feC p.Y) % pr, nm (feC p.Z) % pr⟩ : P3)) ∧ rpD.is (rpC q))) ∧ True) ∧ True)) := by kernel_rfl
theorem lis_1 (p : P4) (q : P3) : evF (yty.en tab16) lis_h Try.f26 [.agg (ptC p), .agg (rpC q)] [some false] = some (.bool false, (((((((((((((((((((((((((True ∧ True) ∧ True) ∧ True) ∧ feD.is (feC p.X)) ∧ True) ∧ True) ∧ feD.is (feC p.Y)) ∧ True) ∧ True) ∧ feD.is (feC p.Z)) ∧ True) ∧ True) ∧ feD.is (feC p.T)) ∧ ((nuC (nm (feC p.X) % pr)).all (fun v => v.oneCell') = true)) ∧ ((nuC (nm (feC p.Y) % pr)).all (fun v => v.oneCell') = true)) ∧ ((nuC (nm (feC p.Z) % pr)).all (fun v => v.oneCell') = true)) ∧ ((nuC (nm (feC p.T) % pr)).all (fun v => v.oneCell') = true)) ∧ True) ∧ True) ∧ True) ∧ True) ∧ ((nuD.is (nuC (nm (feC p.X) % pr)) ∧ nuD.is (nuC (nm (feC p.Y) % pr)) ∧ nuD.is (nuC (nm (feC p.Z) % pr)) ∧ nuD.is (nuC (nm (feC p.T) % pr))) ∧ (ronB (nn (nuC (nm (feC p.X) % pr))) (nn (nuC (nm (feC p.Y) % pr))) (nn (nuC (nm (feC p.Z) % pr))) (nn (nuC (nm (feC p.T) % pr)))) = false)) ∧ True) ∧ True) ∧ True)) := by kernel_rfl
def lis_F (p : P4) (q : P3) : Value := cond (ronB (nn (nuC (nm (feC p.X) % pr))) (nn (nuC (nm (feC p.Y) % pr))) (nn (nuC (nm (feC p.Z) % pr))) (nn (nuC (nm (feC p.T) % pr)))) (.bool (rsmB (dr (rpC (⟨nm (feC p.X) % pr, nm (feC p.Y) % pr, nm (feC p.Z) % pr⟩ : P3))) (dr (rpC q)))) (.bool false)
set_option maxHeartbeats 4000000 in
theorem lis_p (p : P4) (q : P3) (hp : Ok4 p) (hq : Nu3 q) : Pure Try.prog 26 #[.agg (ptC p), .agg (rpC q)] (lis_F p q) := by
  have ⟨hX, hY, hZ, hT⟩ := hp
  unfold lis_F
  cases h0 : (ronB (nn (nuC (nm (feC p.X) % pr))) (nn (nuC (nm (feC p.Y) % pr))) (nn (nuC (nm (feC p.Z) % pr))) (nn (nuC (nm (feC p.T) % pr))))
  · skip
    exact pure_of mixed Try.func26 _ (lis_1 p q) rfl ⟨⟨⟨⟨⟨⟨⟨⟨⟨⟨⟨⟨⟨⟨⟨⟨⟨⟨⟨⟨⟨⟨⟨⟨⟨trivial, trivial⟩, trivial⟩, trivial⟩, (feD.is_enc (hp.1))⟩, trivial⟩, trivial⟩, (feD.is_enc (hp.2.1))⟩, trivial⟩, trivial⟩, (feD.is_enc (hp.2.2.1))⟩, trivial⟩, trivial⟩, (feD.is_enc (hp.2.2.2))⟩, one_nu _⟩, one_nu _⟩, one_nu _⟩, one_nu _⟩, trivial⟩, trivial⟩, trivial⟩, trivial⟩, ⟨⟨(nuD.is_enc (mod_bd _)), (nuD.is_enc (mod_bd _)), (nuD.is_enc (mod_bd _)), (nuD.is_enc (mod_bd _))⟩, h0⟩⟩, trivial⟩, trivial⟩, trivial⟩
  · skip
    exact pure_of mixed Try.func26 _ (lis_0 p q) rfl ⟨⟨⟨⟨⟨⟨⟨⟨⟨⟨⟨⟨⟨⟨⟨⟨⟨⟨⟨⟨⟨⟨⟨⟨⟨⟨⟨⟨⟨⟨⟨trivial, trivial⟩, trivial⟩, trivial⟩, (feD.is_enc (hp.1))⟩, trivial⟩, trivial⟩, (feD.is_enc (hp.2.1))⟩, trivial⟩, trivial⟩, (feD.is_enc (hp.2.2.1))⟩, trivial⟩, trivial⟩, (feD.is_enc (hp.2.2.2))⟩, one_nu _⟩, one_nu _⟩, one_nu _⟩, one_nu _⟩, trivial⟩, trivial⟩, trivial⟩, trivial⟩, ⟨⟨(nuD.is_enc (mod_bd _)), (nuD.is_enc (mod_bd _)), (nuD.is_enc (mod_bd _)), (nuD.is_enc (mod_bd _))⟩, h0⟩⟩, trivial⟩, trivial⟩, trivial⟩, trivial⟩, trivial⟩, trivial⟩, ⟨(rpD.is_enc ⟨mod_bd _, mod_bd _, mod_bd _⟩), (rpD.is_enc (hq))⟩⟩, trivial⟩, trivial⟩
def lis_S (p : P4) (q : P3) : Value := cond (ronB ((p.X % pr)) ((p.Y % pr)) ((p.Z % pr)) ((p.T % pr))) (.bool (rsmB ((⟨p.X % pr, p.Y % pr, p.Z % pr⟩ : P3)) (q))) (.bool false)
theorem lis_e (p : P4) (q : P3) (hp : Ok4 p) (hq : Nu3 q) : lis_F p q = lis_S p q := by
  have ⟨hX, hY, hZ, hT⟩ := hp
  unfold lis_F lis_S
  try simp only [nm_mod, nn_mod, nm_inv, nn_inv, nm_d, nn_d, nm_1, nn_1, nm_root, nn_quo, nm_feC _ hX, nm_feC _ hY, nm_feC _ hZ, nm_feC _ hT, dr_rpC q hq, dr_rpC (⟨p.X % pr, p.Y % pr, p.Z % pr⟩ : P3) ⟨mod_bd _, mod_bd _, mod_bd _⟩]
theorem LIs4_c (p : P4) (q : P3) (hp : Ok4 p) (hq : Nu3 q) : Pure Try.prog 26 #[.agg (ptC p), .agg (rpC q)] (.bool (isB p q)) := by
  have h := lis_p p q hp hq
  rw [lis_e p q hp hq] at h
  unfold lis_S at h
  unfold isB
  cases h0 : ronB (p.X % pr) (p.Y % pr) (p.Z % pr) (p.T % pr) with
  | false => rw [h0] at h; exact h
  | true => rw [h0] at h; exact h
def lIs4 : Entry Try.prog := ent2 Try.func26 (by kernel_rfl) (by kernel_rfl) ptD rpD (fun p q => .bool (isB p q)) LIs4_c
def tab17 : List (Entry Try.prog) := lIs4 :: tab16
theorem db_encI (p : P4) : db (byC (encI p)) = encI p := db_byC _ (ok_encI p)
theorem db_rencI (p : P3) : db (byC (rencI p)) = rencI p := db_byC _ (ok_rencI p)
theorem dp_dec (n : Int) : dp (ptC (decI n)) = decI n := dp_ptC _ (ok4_dec n)
theorem dr_rdec (n : Int) : dr (rpC (rdecI n)) = rdecI n := dr_rpC _ (nu3_rdec n)
def kn4_h (i : Nat) : Hn := if i = 3 then ⟨22, [], [], [], []⟩ else ⟨0, [], [], [], []⟩
theorem kn4_0  : evF (yty.en tab17) kn4_h Try.f21 [] [some true, some true, some true, some true, some true] = some (.bool true, (((((((((((((((((((((((((((((((((True ∧ True) ∧ True) ∧ ptD.is (ptC (ofP bxN byN))) ∧ ((byC (encI (dp (ptC (ofP bxN byN))))).all (fun v => v.oneCell') = true)) ∧ True) ∧ byD.is (byC (encI (dp (ptC (ofP bxN byN)))))) ∧ True) ∧ True) ∧ (True ∧ (decB (db (byC (encI (dp (ptC (ofP bxN byN))))))) = true)) ∧ ((ptC (decI (db (byC (encI (dp (ptC (ofP bxN byN)))))))).all (fun v => v.oneCell') = true)) ∧ True) ∧ ((0 : Int) ≤ 0 ∧ (0 : Int) < ((32 : Nat) : Int))) ∧ True) ∧ (True ∧ (decide ((if 0 < 32 then byt (encI (dp (ptC (ofP bxN byN)))) 0 else 0) = 226)) = true)) ∧ True) ∧ ((0 : Int) ≤ 1 ∧ (1 : Int) < ((32 : Nat) : Int))) ∧ True) ∧ (True ∧ (decide ((if 1 < 32 then byt (encI (dp (ptC (ofP bxN byN)))) 1 else 0) = 242)) = true)) ∧ True) ∧ True) ∧ ((0 : Int) ≤ 31 ∧ (31 : Int) < ((32 : Nat) : Int))) ∧ True) ∧ (True ∧ (decide ((if 31 < 32 then byt (encI (dp (ptC (ofP bxN byN)))) 31 else 0) = 118)) = true)) ∧ True) ∧ True) ∧ True) ∧ True) ∧ True) ∧ True) ∧ True) ∧ ((ptD.is (ptC (decI (db (byC (encI (dp (ptC (ofP bxN byN)))))))) ∧ ptD.is (ptC (ofP bxN byN))) ∧ (eqB (dp (ptC (decI (db (byC (encI (dp (ptC (ofP bxN byN))))))))) (dp (ptC (ofP bxN byN)))) = true)) ∧ True) ∧ True)) := by kernel_rfl
set_option maxHeartbeats 4000000 in
theorem kn4_p   (h0 : (decB ((encI ((ofP bxN byN))))) = true) (h1 : (decide ((if 0 < 32 then byt (encI ((ofP bxN byN))) 0 else 0) = 226)) = true) (h2 : (decide ((if 1 < 32 then byt (encI ((ofP bxN byN))) 1 else 0) = 242)) = true) (h3 : (decide ((if 31 < 32 then byt (encI ((ofP bxN byN))) 31 else 0) = 118)) = true) (h4 : (eqB ((decI ((encI ((ofP bxN byN)))))) ((ofP bxN byN))) = true) : Pure Try.prog 21 #[] (.bool true) := by
  have h0 : (decB (db (byC (encI (dp (ptC (ofP bxN byN))))))) = true := by
    simp only [nm_mod, nn_mod, nm_inv, nn_inv, nm_d, nn_d, nm_1, nn_1, nm_root, nn_quo, dp_ptC _ ok4_base, db_encI, dp_dec]
    exact h0
  have h1 : (decide ((if 0 < 32 then byt (encI (dp (ptC (ofP bxN byN)))) 0 else 0) = 226)) = true := by
    simp only [nm_mod, nn_mod, nm_inv, nn_inv, nm_d, nn_d, nm_1, nn_1, nm_root, nn_quo, dp_ptC _ ok4_base, db_encI, dp_dec]
    exact h1
  have h2 : (decide ((if 1 < 32 then byt (encI (dp (ptC (ofP bxN byN)))) 1 else 0) = 242)) = true := by
    simp only [nm_mod, nn_mod, nm_inv, nn_inv, nm_d, nn_d, nm_1, nn_1, nm_root, nn_quo, dp_ptC _ ok4_base, db_encI, dp_dec]
    exact h2
  have h3 : (decide ((if 31 < 32 then byt (encI (dp (ptC (ofP bxN byN)))) 31 else 0) = 118)) = true := by
    simp only [nm_mod, nn_mod, nm_inv, nn_inv, nm_d, nn_d, nm_1, nn_1, nm_root, nn_quo, dp_ptC _ ok4_base, db_encI, dp_dec]
    exact h3
  have h4 : (eqB (dp (ptC (decI (db (byC (encI (dp (ptC (ofP bxN byN))))))))) (dp (ptC (ofP bxN byN)))) = true := by
    simp only [nm_mod, nn_mod, nm_inv, nn_inv, nm_d, nn_d, nm_1, nn_1, nm_root, nn_quo, dp_ptC _ ok4_base, db_encI, dp_dec]
    exact h4
  exact pure_of mixed Try.func21 _ (kn4_0) rfl ⟨⟨⟨⟨⟨⟨⟨⟨⟨⟨⟨⟨⟨⟨⟨⟨⟨⟨⟨⟨⟨⟨⟨⟨⟨⟨⟨⟨⟨⟨⟨⟨⟨trivial, trivial⟩, trivial⟩, (ptD.is_enc (ok4_base))⟩, byK_one _ _⟩, trivial⟩, (byD.is_enc (ok_encI _))⟩, trivial⟩, trivial⟩, ⟨trivial, h0⟩⟩, ptC_one _⟩, trivial⟩, ⟨by decide, by decide⟩⟩, trivial⟩, ⟨trivial, h1⟩⟩, trivial⟩, ⟨by decide, by decide⟩⟩, trivial⟩, ⟨trivial, h2⟩⟩, trivial⟩, trivial⟩, ⟨by decide, by decide⟩⟩, trivial⟩, ⟨trivial, h3⟩⟩, trivial⟩, trivial⟩, trivial⟩, trivial⟩, trivial⟩, trivial⟩, trivial⟩, ⟨⟨(ptD.is_enc (ok4_dec _)), (ptD.is_enc (ok4_base))⟩, h4⟩⟩, trivial⟩, trivial⟩
theorem LKnown4_c : Pure Try.prog 21 #[] (.bool true) := by
  have e := encI_base
  have e2 := enc_repP rep_base
  refine kn4_p ?_ ?_ ?_ ?_ ?_
  · rw [e2]; exact decB_enc evn_base
  · rw [e]; kernel_rfl
  · rw [e]; kernel_rfl
  · rw [e]; kernel_rfl
  · rw [e2, eqB_iff (dec_enc_rep evn_base) rep_base]
    exact eq_can base
def lKnown4 : Entry Try.prog := ent0 Try.func21 (by kernel_rfl) (by kernel_rfl) (.bool true) LKnown4_c
def tab18 : List (Entry Try.prog) := lKnown4 :: tab17
def lw_h (i : Nat) : Hn := if i = 2 then ⟨9, [(0, true), (3, true), (1, true), (4, true), (2, false), (5, false), (6, true), (7, true), (8, true)], [(10, false), (11, false)], [], []⟩ else if i = 4 then ⟨0, [(0, true), (1, true), (2, false), (3, false), (4, false)], [], [0, 3, 4], []⟩ else if i = 5 then ⟨6, [], [], [], []⟩ else ⟨0, [], [], [], []⟩
theorem lw_0 (a : Sd) : evF (yty.en tab18) lw_h Try.f20 [.agg (sdC a)] [none, some true, none, some true] = some (.tuple #[.agg (ptC (addP (dp (ptC (atP (nm (feC a.Y)) (a.o)))) (dp (ptC (atP (nm (feC a.Y)) (a.o)))))), .agg (rpC (rab_R (dr (rpC (ratP (nn (nuC (nm (feC a.Y) % pr))) (a.o)))) (dr (rpC (ratP (nn (nuC (nm (feC a.Y) % pr))) (a.o)))) dN)), .bool true], (((((((((((((((((((((((((((((((((((((True ∧ True) ∧ True) ∧ True) ∧ True) ∧ True) ∧ feD.is (feC a.Y)) ∧ True) ∧ True) ∧ (True ∧ (atB (nm (feC a.Y)) (a.o)) = true)) ∧ ((ptC (atP (nm (feC a.Y)) (a.o))).all (fun v => v.oneCell') = true)) ∧ True) ∧ True) ∧ True) ∧ True) ∧ True) ∧ feD.is (feC a.Y)) ∧ nuD.is (nuC (nm (feC a.Y) % pr))) ∧ True) ∧ True) ∧ (True ∧ (ratB (nn (nuC (nm (feC a.Y) % pr))) (a.o)) = true)) ∧ ((rpC (ratP (nn (nuC (nm (feC a.Y) % pr))) (a.o))).all (fun v => v.oneCell') = true)) ∧ True) ∧ True) ∧ True) ∧ True) ∧ True) ∧ True) ∧ True) ∧ True) ∧ True) ∧ (ptD.is (ptC (atP (nm (feC a.Y)) (a.o))) ∧ ptD.is (ptC (atP (nm (feC a.Y)) (a.o))))) ∧ True) ∧ True) ∧ (rpD.is (rpC (ratP (nn (nuC (nm (feC a.Y) % pr))) (a.o))) ∧ rpD.is (rpC (ratP (nn (nuC (nm (feC a.Y) % pr))) (a.o))))) ∧ ((ptC (addP (dp (ptC (atP (nm (feC a.Y)) (a.o)))) (dp (ptC (atP (nm (feC a.Y)) (a.o)))))).all (fun v => v.oneCell') = true)) ∧ ((rpC (rab_R (dr (rpC (ratP (nn (nuC (nm (feC a.Y) % pr))) (a.o)))) (dr (rpC (ratP (nn (nuC (nm (feC a.Y) % pr))) (a.o)))) dN)).all (fun v => v.oneCell') = true)) ∧ True)) := by kernel_rfl
theorem lw_1 (a : Sd) : evF (yty.en tab18) lw_h Try.f20 [.agg (sdC a)] [none, some true, none, some false] = some (.tuple #[.agg (ptC (atP (nm (feC a.Y)) (a.o))), .agg (rpC (ratP (nn (nuC (nm (feC a.Y) % pr))) (a.o))), .bool false], (((((((((((((((((((((((((((((((((True ∧ True) ∧ True) ∧ True) ∧ True) ∧ True) ∧ feD.is (feC a.Y)) ∧ True) ∧ True) ∧ (True ∧ (atB (nm (feC a.Y)) (a.o)) = true)) ∧ ((ptC (atP (nm (feC a.Y)) (a.o))).all (fun v => v.oneCell') = true)) ∧ True) ∧ True) ∧ True) ∧ True) ∧ True) ∧ feD.is (feC a.Y)) ∧ nuD.is (nuC (nm (feC a.Y) % pr))) ∧ True) ∧ True) ∧ (True ∧ (ratB (nn (nuC (nm (feC a.Y) % pr))) (a.o)) = false)) ∧ ((rpC (ratP (nn (nuC (nm (feC a.Y) % pr))) (a.o))).all (fun v => v.oneCell') = true)) ∧ True) ∧ True) ∧ True) ∧ True) ∧ True) ∧ True) ∧ True) ∧ True) ∧ True) ∧ ((ptC (atP (nm (feC a.Y)) (a.o))).all (fun v => v.oneCell') = true)) ∧ ((rpC (ratP (nn (nuC (nm (feC a.Y) % pr))) (a.o))).all (fun v => v.oneCell') = true)) ∧ True)) := by kernel_rfl
theorem lw_2 (a : Sd) : evF (yty.en tab18) lw_h Try.f20 [.agg (sdC a)] [none, some false, none, none] = some (.tuple #[.agg (ptC (atP (nm (feC a.Y)) (a.o))), .agg (rpC (ratP (nn (nuC (nm (feC a.Y) % pr))) (a.o))), .bool false], (((((((((((((((((((((((((((((((True ∧ True) ∧ True) ∧ True) ∧ True) ∧ True) ∧ feD.is (feC a.Y)) ∧ True) ∧ True) ∧ (True ∧ (atB (nm (feC a.Y)) (a.o)) = false)) ∧ ((ptC (atP (nm (feC a.Y)) (a.o))).all (fun v => v.oneCell') = true)) ∧ True) ∧ True) ∧ True) ∧ True) ∧ True) ∧ feD.is (feC a.Y)) ∧ nuD.is (nuC (nm (feC a.Y) % pr))) ∧ True) ∧ True) ∧ True) ∧ ((rpC (ratP (nn (nuC (nm (feC a.Y) % pr))) (a.o))).all (fun v => v.oneCell') = true)) ∧ True) ∧ True) ∧ True) ∧ True) ∧ True) ∧ True) ∧ True) ∧ ((ptC (atP (nm (feC a.Y)) (a.o))).all (fun v => v.oneCell') = true)) ∧ ((rpC (ratP (nn (nuC (nm (feC a.Y) % pr))) (a.o))).all (fun v => v.oneCell') = true)) ∧ True)) := by kernel_rfl
def lw_F (a : Sd) : Value := cond (atB (nm (feC a.Y)) (a.o)) (cond (ratB (nn (nuC (nm (feC a.Y) % pr))) (a.o)) (.tuple #[.agg (ptC (addP (dp (ptC (atP (nm (feC a.Y)) (a.o)))) (dp (ptC (atP (nm (feC a.Y)) (a.o)))))), .agg (rpC (rab_R (dr (rpC (ratP (nn (nuC (nm (feC a.Y) % pr))) (a.o)))) (dr (rpC (ratP (nn (nuC (nm (feC a.Y) % pr))) (a.o)))) dN)), .bool true]) (.tuple #[.agg (ptC (atP (nm (feC a.Y)) (a.o))), .agg (rpC (ratP (nn (nuC (nm (feC a.Y) % pr))) (a.o))), .bool false])) (.tuple #[.agg (ptC (atP (nm (feC a.Y)) (a.o))), .agg (rpC (ratP (nn (nuC (nm (feC a.Y) % pr))) (a.o))), .bool false])
set_option maxHeartbeats 4000000 in
theorem lw_p (a : Sd) (ha : Ok a.Y) : Pure Try.prog 20 #[.agg (sdC a)] (lw_F a) := by
  unfold lw_F
  cases h1 : (atB (nm (feC a.Y)) (a.o))
  · skip
    exact pure_of mixed Try.func20 _ (lw_2 a) rfl ⟨⟨⟨⟨⟨⟨⟨⟨⟨⟨⟨⟨⟨⟨⟨⟨⟨⟨⟨⟨⟨⟨⟨⟨⟨⟨⟨⟨⟨⟨⟨trivial, trivial⟩, trivial⟩, trivial⟩, trivial⟩, trivial⟩, (feD.is_enc (ha))⟩, trivial⟩, trivial⟩, ⟨trivial, h1⟩⟩, ptC_one _⟩, trivial⟩, trivial⟩, trivial⟩, trivial⟩, trivial⟩, (feD.is_enc (ha))⟩, (nuD.is_enc (mod_bd _))⟩, trivial⟩, trivial⟩, trivial⟩, rpC_one _⟩, trivial⟩, trivial⟩, trivial⟩, trivial⟩, trivial⟩, trivial⟩, trivial⟩, ptC_one _⟩, rpC_one _⟩, trivial⟩
  · skip
    cases h3 : (ratB (nn (nuC (nm (feC a.Y) % pr))) (a.o))
    · skip
      exact pure_of mixed Try.func20 _ (lw_1 a) rfl ⟨⟨⟨⟨⟨⟨⟨⟨⟨⟨⟨⟨⟨⟨⟨⟨⟨⟨⟨⟨⟨⟨⟨⟨⟨⟨⟨⟨⟨⟨⟨⟨⟨trivial, trivial⟩, trivial⟩, trivial⟩, trivial⟩, trivial⟩, (feD.is_enc (ha))⟩, trivial⟩, trivial⟩, ⟨trivial, h1⟩⟩, ptC_one _⟩, trivial⟩, trivial⟩, trivial⟩, trivial⟩, trivial⟩, (feD.is_enc (ha))⟩, (nuD.is_enc (mod_bd _))⟩, trivial⟩, trivial⟩, ⟨trivial, h3⟩⟩, rpC_one _⟩, trivial⟩, trivial⟩, trivial⟩, trivial⟩, trivial⟩, trivial⟩, trivial⟩, trivial⟩, trivial⟩, ptC_one _⟩, rpC_one _⟩, trivial⟩
    · skip
      exact pure_of mixed Try.func20 _ (lw_0 a) rfl ⟨⟨⟨⟨⟨⟨⟨⟨⟨⟨⟨⟨⟨⟨⟨⟨⟨⟨⟨⟨⟨⟨⟨⟨⟨⟨⟨⟨⟨⟨⟨⟨⟨⟨⟨⟨⟨trivial, trivial⟩, trivial⟩, trivial⟩, trivial⟩, trivial⟩, (feD.is_enc (ha))⟩, trivial⟩, trivial⟩, ⟨trivial, h1⟩⟩, ptC_one _⟩, trivial⟩, trivial⟩, trivial⟩, trivial⟩, trivial⟩, (feD.is_enc (ha))⟩, (nuD.is_enc (mod_bd _))⟩, trivial⟩, trivial⟩, ⟨trivial, h3⟩⟩, rpC_one _⟩, trivial⟩, trivial⟩, trivial⟩, trivial⟩, trivial⟩, trivial⟩, trivial⟩, trivial⟩, trivial⟩, ⟨(ptD.is_enc (ok4_atD _ (ha))), (ptD.is_enc (ok4_atD _ (ha)))⟩⟩, trivial⟩, trivial⟩, ⟨(rpD.is_enc (nu3_atD _ (mod_bd _))), (rpD.is_enc (nu3_atD _ (mod_bd _)))⟩⟩, ptC_one _⟩, rpC_one _⟩, trivial⟩
def lw_S (a : Sd) : Value := cond (atB (a.Y) (a.o)) (cond (ratB ((a.Y % pr)) (a.o)) (.tuple #[.agg (ptC (addP ((atP (a.Y) (a.o))) ((atP (a.Y) (a.o))))), .agg (rpC (rab_R ((ratP ((a.Y % pr)) (a.o))) ((ratP ((a.Y % pr)) (a.o))) dN)), .bool true]) (.tuple #[.agg (ptC (atP (a.Y) (a.o))), .agg (rpC (ratP ((a.Y % pr)) (a.o))), .bool false])) (.tuple #[.agg (ptC (atP (a.Y) (a.o))), .agg (rpC (ratP ((a.Y % pr)) (a.o))), .bool false])
theorem lw_e (a : Sd) (ha : Ok a.Y) : lw_F a = lw_S a := by
  unfold lw_F lw_S
  try simp only [nm_mod, nn_mod, nm_inv, nn_inv, nm_d, nn_d, nm_1, nn_1, nm_root, nn_quo, nm_feC _ ha, dp_ptC _ (ok4_at a.Y a.o ha), dr_rpC _ (nu3_atM a.Y a.o)]
def tB2 (a : Sd) : Bool := cond (atB a.Y a.o) (ratB (a.Y % pr) a.o) false
def tw1 (a : Sd) : P4 := cond (tB2 a) (addP (atP a.Y a.o) (atP a.Y a.o)) (atP a.Y a.o)
def tw2 (a : Sd) : P3 := cond (tB2 a) (rab_R (ratP (a.Y % pr) a.o) (ratP (a.Y % pr) a.o) dN) (ratP (a.Y % pr) a.o)
theorem LTwice_c (a : Sd) (ha : Ok a.Y) : Pure Try.prog 20 #[.agg (sdC a)] (.tuple #[.agg (ptC (tw1 a)), .agg (rpC (tw2 a)), .bool (tB2 a)]) := by
  have h := lw_p a ha
  rw [lw_e a ha] at h
  unfold lw_S at h
  unfold tw1 tw2 tB2
  cases h0 : atB a.Y a.o with
  | false => rw [h0] at h; exact h
  | true =>
    rw [h0] at h
    cases h1 : ratB (a.Y % pr) a.o with
    | false => rw [h1] at h; exact h
    | true => rw [h1] at h; exact h
theorem ok4_tw (a : Sd) (h : Ok a.Y) : Ok4 (tw1 a) := by
  unfold tw1
  cases tB2 a with
  | true => exact ok4_add _ _
  | false => exact ok4_at _ _ h
theorem ok4_tw1 {a : Sd} (h : Ok a.Y) : Ok4 (tw1 (ds (sdC a))) := by rw [ds_sdC a h]; exact ok4_tw a h
theorem nu3_tw2 (a : Sd) : Nu3 (tw2 a) := by
  unfold tw2
  cases tB2 a with
  | true => exact nu3_ab _ _ _
  | false => exact nu3_atM _ _
def lTwice : Entry Try.prog := ent1 Try.func20 (by kernel_rfl) (by kernel_rfl) sdD (fun a => .tuple #[.agg (ptC (tw1 a)), .agg (rpC (tw2 a)), .bool (tB2 a)]) LTwice_c
theorem tw_rep {a : Sd} (ha : Ok a.Y) (h : tB2 a = true) : ∃ x : Pt, Evn x ∧ RepP (tw1 a) x ∧ RepN (tw2 a) x := by
  have h1 : atB a.Y a.o = true := by
    unfold tB2 at h
    cases h0 : atB a.Y a.o with
    | true => rfl
    | false => rw [h0] at h; cases h
  obtain ⟨x, p, n⟩ := at_rep a.Y a.o ha h1
  refine ⟨x.add x, evn_dbl x, ?_, ?_⟩
  · unfold tw1; rw [h]; exact rep_add p p
  · unfold tw2; rw [h]; exact repn_add n n
def tab19 : List (Entry Try.prog) := lTwice :: tab18
def enT_h (i : Nat) : Hn := if i = 4 then ⟨9, [], [], [], []⟩ else ⟨0, [], [], [], []⟩
theorem enT_0 (a : Sd) : evF (yty.en tab19) enT_h Try.f5 [.agg (sdC a)] [some true, some true, none] = some (.bool true, (((((((((((((((((((((True ∧ True) ∧ True) ∧ sdD.is (sdC a)) ∧ True) ∧ True) ∧ True) ∧ (True ∧ (tB2 (ds (sdC a))) = true)) ∧ ((ptC (tw1 (ds (sdC a)))).all (fun v => v.oneCell') = true)) ∧ ((rpC (tw2 (ds (sdC a)))).all (fun v => v.oneCell') = true)) ∧ True) ∧ True) ∧ True) ∧ True) ∧ ptD.is (ptC (tw1 (ds (sdC a))))) ∧ True) ∧ rpD.is (rpC (tw2 (ds (sdC a))))) ∧ ((byD.is (byC (encI (dp (ptC (tw1 (ds (sdC a))))))) ∧ byD.is (byC (rencI (dr (rpC (tw2 (ds (sdC a)))))))) ∧ (decide (db (byC (encI (dp (ptC (tw1 (ds (sdC a))))))) = db (byC (rencI (dr (rpC (tw2 (ds (sdC a))))))))) = true)) ∧ True) ∧ True) ∧ True) ∧ True)) := by kernel_rfl
set_option maxHeartbeats 4000000 in
theorem enT_p (a : Sd) (ha : Ok a.Y) (h0 : (tB2 (a)) = true) (h1 : (decide ((encI ((tw1 (a)))) = (rencI ((tw2 (a)))))) = true) : Pure Try.prog 5 #[.agg (sdC a)] (.bool true) := by
  have h0 : (tB2 (ds (sdC a))) = true := by
    simp only [nm_mod, nn_mod, nm_inv, nn_inv, nm_d, nn_d, nm_1, nn_1, nm_root, nn_quo, ds_sdC _ ha, db_encI, db_rencI, dp_ptC _ (ok4_tw a ha), dr_rpC _ (nu3_tw2 a)]
    exact h0
  have h1 : (decide (db (byC (encI (dp (ptC (tw1 (ds (sdC a))))))) = db (byC (rencI (dr (rpC (tw2 (ds (sdC a))))))))) = true := by
    simp only [nm_mod, nn_mod, nm_inv, nn_inv, nm_d, nn_d, nm_1, nn_1, nm_root, nn_quo, ds_sdC _ ha, db_encI, db_rencI, dp_ptC _ (ok4_tw a ha), dr_rpC _ (nu3_tw2 a)]
    exact h1
  exact pure_of mixed Try.func5 _ (enT_0 a) rfl ⟨⟨⟨⟨⟨⟨⟨⟨⟨⟨⟨⟨⟨⟨⟨⟨⟨⟨⟨⟨⟨trivial, trivial⟩, trivial⟩, (sdD.is_enc (ha))⟩, trivial⟩, trivial⟩, trivial⟩, ⟨trivial, h0⟩⟩, ptC_one _⟩, rpC_one _⟩, trivial⟩, trivial⟩, trivial⟩, trivial⟩, (ptD.is_enc (ok4_tw1 (ha)))⟩, trivial⟩, (rpD.is_enc (nu3_tw2 _))⟩, ⟨⟨(byD.is_enc (ok_encI _)), (byD.is_enc (ok_rencI _))⟩, h1⟩⟩, trivial⟩, trivial⟩, trivial⟩, trivial⟩
def enF_h (i : Nat) : Hn := if i = 4 then ⟨9, [], [], [], []⟩ else ⟨0, [], [], [], []⟩
theorem enF_0 (a : Sd) : evF (yty.en tab19) enF_h Try.f5 [.agg (sdC a)] [some false, none] = some (.bool true, ((((((((((((((True ∧ True) ∧ True) ∧ sdD.is (sdC a)) ∧ True) ∧ True) ∧ True) ∧ (True ∧ (tB2 (ds (sdC a))) = false)) ∧ ((ptC (tw1 (ds (sdC a)))).all (fun v => v.oneCell') = true)) ∧ ((rpC (tw2 (ds (sdC a)))).all (fun v => v.oneCell') = true)) ∧ True) ∧ True) ∧ True) ∧ True) ∧ True)) := by kernel_rfl
set_option maxHeartbeats 4000000 in
theorem enF_p (a : Sd) (ha : Ok a.Y) (h0 : (tB2 (a)) = false) : Pure Try.prog 5 #[.agg (sdC a)] (.bool true) := by
  have h0 : (tB2 (ds (sdC a))) = false := by
    simp only [nm_mod, nn_mod, nm_inv, nn_inv, nm_d, nn_d, nm_1, nn_1, nm_root, nn_quo, ds_sdC _ ha]
    exact h0
  exact pure_of mixed Try.func5 _ (enF_0 a) rfl ⟨⟨⟨⟨⟨⟨⟨⟨⟨⟨⟨⟨⟨⟨trivial, trivial⟩, trivial⟩, (sdD.is_enc (ha))⟩, trivial⟩, trivial⟩, trivial⟩, ⟨trivial, h0⟩⟩, ptC_one _⟩, rpC_one _⟩, trivial⟩, trivial⟩, trivial⟩, trivial⟩, trivial⟩
theorem encodes_c (a : Sd) (ha : Ok a.Y) : Pure Try.prog 5 #[.agg (sdC a)] (.bool true) := by
  cases h : tB2 a with
  | false => exact enF_p a ha h
  | true =>
    obtain ⟨x, _, p, n⟩ := tw_rep ha h
    exact enT_p a ha h (decide_eq_true ((enc_repP p).trans (renc_rep n).symm))
def deF_h (i : Nat) : Hn := ⟨0, [], [], [], []⟩
theorem deF_0 (n : Int) : evF (yty.en tab18) deF_h Try.f6 [.agg (byC n)] [some false, some false, some true, none] = some (.bool true, ((((((((((((((((((((((((((((True ∧ True) ∧ True) ∧ byD.is (byC n)) ∧ True) ∧ True) ∧ (True ∧ (decB (db (byC n))) = false)) ∧ ((ptC (decI (db (byC n)))).all (fun v => v.oneCell') = true)) ∧ True) ∧ True) ∧ byD.is (byC n)) ∧ True) ∧ True) ∧ (True ∧ (decB (db (byC n))) = false)) ∧ ((rpC (rdecI (db (byC n)))).all (fun v => v.oneCell') = true)) ∧ True) ∧ True) ∧ True) ∧ True) ∧ True) ∧ True) ∧ True) ∧ True) ∧ ((ptD.is (ptC (decI (db (byC n)))) ∧ ptD.is (ptC (⟨0, 0, 0, 0⟩ : P4))) ∧ (decide (same4 (dp (ptC (decI (db (byC n))))) (dp (ptC (⟨0, 0, 0, 0⟩ : P4))))) = true)) ∧ True) ∧ True) ∧ True) ∧ True) ∧ True)) := by kernel_rfl
set_option maxHeartbeats 4000000 in
theorem deF_p (n : Int) (hn : Ok n) (h0 : (decB (n)) = false) (h1 : (decB (n)) = false) (h2 : (decide (same4 ((decI (n))) ((⟨0, 0, 0, 0⟩ : P4)))) = true) : Pure Try.prog 6 #[.agg (byC n)] (.bool true) := by
  have h0 : (decB (db (byC n))) = false := by
    simp only [nm_mod, nn_mod, nm_inv, nn_inv, nm_d, nn_d, nm_1, nn_1, nm_root, nn_quo, db_byC _ hn, dp_dec, dr_rdec, dp_ptC _ (show Ok4 ⟨0, 0, 0, 0⟩ from ⟨ok_0, ok_0, ok_0, ok_0⟩)]
    exact h0
  have h1 : (decB (db (byC n))) = false := by
    simp only [nm_mod, nn_mod, nm_inv, nn_inv, nm_d, nn_d, nm_1, nn_1, nm_root, nn_quo, db_byC _ hn, dp_dec, dr_rdec, dp_ptC _ (show Ok4 ⟨0, 0, 0, 0⟩ from ⟨ok_0, ok_0, ok_0, ok_0⟩)]
    exact h1
  have h2 : (decide (same4 (dp (ptC (decI (db (byC n))))) (dp (ptC (⟨0, 0, 0, 0⟩ : P4))))) = true := by
    simp only [nm_mod, nn_mod, nm_inv, nn_inv, nm_d, nn_d, nm_1, nn_1, nm_root, nn_quo, db_byC _ hn, dp_dec, dr_rdec, dp_ptC _ (show Ok4 ⟨0, 0, 0, 0⟩ from ⟨ok_0, ok_0, ok_0, ok_0⟩)]
    exact h2
  exact pure_of mixed Try.func6 _ (deF_0 n) rfl ⟨⟨⟨⟨⟨⟨⟨⟨⟨⟨⟨⟨⟨⟨⟨⟨⟨⟨⟨⟨⟨⟨⟨⟨⟨⟨⟨⟨trivial, trivial⟩, trivial⟩, (byD.is_enc (hn))⟩, trivial⟩, trivial⟩, ⟨trivial, h0⟩⟩, ptC_one _⟩, trivial⟩, trivial⟩, (byD.is_enc (hn))⟩, trivial⟩, trivial⟩, ⟨trivial, h1⟩⟩, rpC_one _⟩, trivial⟩, trivial⟩, trivial⟩, trivial⟩, trivial⟩, trivial⟩, trivial⟩, trivial⟩, ⟨⟨(ptD.is_enc (ok4_dec _)), (ptD.is_enc ⟨ok_0, ok_0, ok_0, ok_0⟩)⟩, h2⟩⟩, trivial⟩, trivial⟩, trivial⟩, trivial⟩, trivial⟩
def deT_h (i : Nat) : Hn := ⟨0, [], [], [], []⟩
theorem deT_0 (n : Int) : evF (yty.en tab18) deT_h Try.f6 [.agg (byC n)] [some true, some true, some true, none] = some (.bool true, (((((((((((((((((((((((((((True ∧ True) ∧ True) ∧ byD.is (byC n)) ∧ True) ∧ True) ∧ (True ∧ (decB (db (byC n))) = true)) ∧ ((ptC (decI (db (byC n)))).all (fun v => v.oneCell') = true)) ∧ True) ∧ True) ∧ byD.is (byC n)) ∧ True) ∧ True) ∧ (True ∧ (decB (db (byC n))) = true)) ∧ ((rpC (rdecI (db (byC n)))).all (fun v => v.oneCell') = true)) ∧ True) ∧ True) ∧ True) ∧ True) ∧ True) ∧ True) ∧ True) ∧ ((ptD.is (ptC (decI (db (byC n)))) ∧ rpD.is (rpC (rdecI (db (byC n))))) ∧ (isB (dp (ptC (decI (db (byC n))))) (dr (rpC (rdecI (db (byC n)))))) = true)) ∧ True) ∧ True) ∧ True) ∧ True) ∧ True)) := by kernel_rfl
set_option maxHeartbeats 4000000 in
theorem deT_p (n : Int) (hn : Ok n) (h0 : (decB (n)) = true) (h1 : (decB (n)) = true) (h2 : (isB ((decI (n))) ((rdecI (n)))) = true) : Pure Try.prog 6 #[.agg (byC n)] (.bool true) := by
  have h0 : (decB (db (byC n))) = true := by
    simp only [nm_mod, nn_mod, nm_inv, nn_inv, nm_d, nn_d, nm_1, nn_1, nm_root, nn_quo, db_byC _ hn, dp_dec, dr_rdec]
    exact h0
  have h1 : (decB (db (byC n))) = true := by
    simp only [nm_mod, nn_mod, nm_inv, nn_inv, nm_d, nn_d, nm_1, nn_1, nm_root, nn_quo, db_byC _ hn, dp_dec, dr_rdec]
    exact h1
  have h2 : (isB (dp (ptC (decI (db (byC n))))) (dr (rpC (rdecI (db (byC n)))))) = true := by
    simp only [nm_mod, nn_mod, nm_inv, nn_inv, nm_d, nn_d, nm_1, nn_1, nm_root, nn_quo, db_byC _ hn, dp_dec, dr_rdec]
    exact h2
  exact pure_of mixed Try.func6 _ (deT_0 n) rfl ⟨⟨⟨⟨⟨⟨⟨⟨⟨⟨⟨⟨⟨⟨⟨⟨⟨⟨⟨⟨⟨⟨⟨⟨⟨⟨⟨trivial, trivial⟩, trivial⟩, (byD.is_enc (hn))⟩, trivial⟩, trivial⟩, ⟨trivial, h0⟩⟩, ptC_one _⟩, trivial⟩, trivial⟩, (byD.is_enc (hn))⟩, trivial⟩, trivial⟩, ⟨trivial, h1⟩⟩, rpC_one _⟩, trivial⟩, trivial⟩, trivial⟩, trivial⟩, trivial⟩, trivial⟩, trivial⟩, ⟨⟨(ptD.is_enc (ok4_dec _)), (rpD.is_enc (nu3_rdec _))⟩, h2⟩⟩, trivial⟩, trivial⟩, trivial⟩, trivial⟩, trivial⟩
theorem decodes_c (n : Int) (hn : Ok n) : Pure Try.prog 6 #[.agg (byC n)] (.bool true) := by
  cases h : decB n with
  | false =>
    refine deF_p n hn h h (decide_eq_true ?_)
    rw [dec_none h]
    exact ⟨rfl, rfl, rfl, rfl⟩
  | true =>
    obtain ⟨hb, R⟩ := dec_rep h
    exact deT_p n hn h h (is_true R (rdec_rep h hb))
def eqT_h (i : Nat) : Hn := if i = 1 then ⟨16, [], [], [], []⟩ else if i = 2 then ⟨16, [], [], [], []⟩ else ⟨0, [], [], [], []⟩
theorem eqT_0 (p q : P4) : evF (yty.en tab18) eqT_h Try.f7 [.agg (ptC p), .agg (ptC q)] [some true, none, none, some true, none] = some (.bool true, ((((((((((((((((((((((((((((((((((((((((((((True ∧ True) ∧ True) ∧ True) ∧ feD.is (feC p.X)) ∧ True) ∧ True) ∧ feD.is (feC q.Y)) ∧ (nuD.is (nuC (nm (feC p.X) % pr)) ∧ nuD.is (nuC (nm (feC q.Y) % pr)))) ∧ True) ∧ True) ∧ feD.is (feC p.Y)) ∧ True) ∧ True) ∧ feD.is (feC q.X)) ∧ (nuD.is (nuC (nm (feC p.Y) % pr)) ∧ nuD.is (nuC (nm (feC q.X) % pr)))) ∧ ((nuD.is (nuC (nn (nuC (nm (feC p.X) % pr)) * nn (nuC (nm (feC q.Y) % pr)) % pr)) ∧ nuD.is (nuC (nn (nuC (nm (feC p.Y) % pr)) * nn (nuC (nm (feC q.X) % pr)) % pr))) ∧ (decide (nn (nuC (nn (nuC (nm (feC p.X) % pr)) * nn (nuC (nm (feC q.Y) % pr)) % pr)) = nn (nuC (nn (nuC (nm (feC p.Y) % pr)) * nn (nuC (nm (feC q.X) % pr)) % pr)))) = true)) ∧ True) ∧ True) ∧ True) ∧ feD.is (feC p.Y)) ∧ True) ∧ True) ∧ feD.is (feC q.Y)) ∧ (nuD.is (nuC (nm (feC p.Y) % pr)) ∧ nuD.is (nuC (nm (feC q.Y) % pr)))) ∧ True) ∧ True) ∧ feD.is (feC p.X)) ∧ True) ∧ True) ∧ feD.is (feC q.X)) ∧ (nuD.is (nuC (nm (feC p.X) % pr)) ∧ nuD.is (nuC (nm (feC q.X) % pr)))) ∧ (nuD.is (nuC (nn (nuC (nm (feC p.Y) % pr)) * nn (nuC (nm (feC q.Y) % pr)) % pr)) ∧ nuD.is (nuC (nn (nuC (nm (feC p.X) % pr)) * nn (nuC (nm (feC q.X) % pr)) % pr)))) ∧ True) ∧ True) ∧ True) ∧ (ptD.is (ptC p) ∧ ptD.is (ptC q))) ∧ True) ∧ True) ∧ True) ∧ (True ∧ ((eqB (dp (ptC p)) (dp (ptC q))) == true) = true)) ∧ True) ∧ True) ∧ True) ∧ True)) := by kernel_rfl
set_option maxHeartbeats 4000000 in
theorem eqT_p (p q : P4) (hp : Ok4 p) (hq : Ok4 q) (h0 : (decide (((p.X % pr) * (q.Y % pr) % pr) = ((p.Y % pr) * (q.X % pr) % pr))) = true) (h3 : ((eqB (p) (q)) == true) = true) : Pure Try.prog 7 #[.agg (ptC p), .agg (ptC q)] (.bool true) := by
  have ⟨hX, hY, hZ, hT⟩ := hp
  have ⟨kX, kY, kZ, kT⟩ := hq
  have h0 : (decide (nn (nuC (nn (nuC (nm (feC p.X) % pr)) * nn (nuC (nm (feC q.Y) % pr)) % pr)) = nn (nuC (nn (nuC (nm (feC p.Y) % pr)) * nn (nuC (nm (feC q.X) % pr)) % pr)))) = true := by
    simp only [nm_mod, nn_mod, nm_inv, nn_inv, nm_d, nn_d, nm_1, nn_1, nm_root, nn_quo, dp_ptC _ hp, dp_ptC _ hq, nm_feC _ hX, nm_feC _ hY, nm_feC _ kX, nm_feC _ kY]
    exact h0
  have h3 : ((eqB (dp (ptC p)) (dp (ptC q))) == true) = true := by
    simp only [nm_mod, nn_mod, nm_inv, nn_inv, nm_d, nn_d, nm_1, nn_1, nm_root, nn_quo, dp_ptC _ hp, dp_ptC _ hq, nm_feC _ hX, nm_feC _ hY, nm_feC _ kX, nm_feC _ kY]
    exact h3
  exact pure_of mixed Try.func7 _ (eqT_0 p q) rfl ⟨⟨⟨⟨⟨⟨⟨⟨⟨⟨⟨⟨⟨⟨⟨⟨⟨⟨⟨⟨⟨⟨⟨⟨⟨⟨⟨⟨⟨⟨⟨⟨⟨⟨⟨⟨⟨⟨⟨⟨⟨⟨⟨⟨trivial, trivial⟩, trivial⟩, trivial⟩, (feD.is_enc (hp.1))⟩, trivial⟩, trivial⟩, (feD.is_enc (hq.2.1))⟩, ⟨(nuD.is_enc (mod_bd _)), (nuD.is_enc (mod_bd _))⟩⟩, trivial⟩, trivial⟩, (feD.is_enc (hp.2.1))⟩, trivial⟩, trivial⟩, (feD.is_enc (hq.1))⟩, ⟨(nuD.is_enc (mod_bd _)), (nuD.is_enc (mod_bd _))⟩⟩, ⟨⟨(nuD.is_enc (mod_bd _)), (nuD.is_enc (mod_bd _))⟩, h0⟩⟩, trivial⟩, trivial⟩, trivial⟩, (feD.is_enc (hp.2.1))⟩, trivial⟩, trivial⟩, (feD.is_enc (hq.2.1))⟩, ⟨(nuD.is_enc (mod_bd _)), (nuD.is_enc (mod_bd _))⟩⟩, trivial⟩, trivial⟩, (feD.is_enc (hp.1))⟩, trivial⟩, trivial⟩, (feD.is_enc (hq.1))⟩, ⟨(nuD.is_enc (mod_bd _)), (nuD.is_enc (mod_bd _))⟩⟩, ⟨(nuD.is_enc (mod_bd _)), (nuD.is_enc (mod_bd _))⟩⟩, trivial⟩, trivial⟩, trivial⟩, ⟨(ptD.is_enc (hp)), (ptD.is_enc (hq))⟩⟩, trivial⟩, trivial⟩, trivial⟩, ⟨trivial, h3⟩⟩, trivial⟩, trivial⟩, trivial⟩, trivial⟩
def eqF_h (i : Nat) : Hn := if i = 1 then ⟨16, [], [], [], []⟩ else if i = 2 then ⟨16, [], [], [], []⟩ else ⟨0, [], [], [], []⟩
theorem eqF_0 (p q : P4) : evF (yty.en tab18) eqF_h Try.f7 [.agg (ptC p), .agg (ptC q)] [some false, none, none, some true, none] = some (.bool true, (((((((((((((((((((((((((((((((((((((((((((((True ∧ True) ∧ True) ∧ True) ∧ feD.is (feC p.X)) ∧ True) ∧ True) ∧ feD.is (feC q.Y)) ∧ (nuD.is (nuC (nm (feC p.X) % pr)) ∧ nuD.is (nuC (nm (feC q.Y) % pr)))) ∧ True) ∧ True) ∧ feD.is (feC p.Y)) ∧ True) ∧ True) ∧ feD.is (feC q.X)) ∧ (nuD.is (nuC (nm (feC p.Y) % pr)) ∧ nuD.is (nuC (nm (feC q.X) % pr)))) ∧ ((nuD.is (nuC (nn (nuC (nm (feC p.X) % pr)) * nn (nuC (nm (feC q.Y) % pr)) % pr)) ∧ nuD.is (nuC (nn (nuC (nm (feC p.Y) % pr)) * nn (nuC (nm (feC q.X) % pr)) % pr))) ∧ (decide (nn (nuC (nn (nuC (nm (feC p.X) % pr)) * nn (nuC (nm (feC q.Y) % pr)) % pr)) = nn (nuC (nn (nuC (nm (feC p.Y) % pr)) * nn (nuC (nm (feC q.X) % pr)) % pr)))) = false)) ∧ True) ∧ True) ∧ True) ∧ feD.is (feC p.Y)) ∧ True) ∧ True) ∧ feD.is (feC q.Y)) ∧ (nuD.is (nuC (nm (feC p.Y) % pr)) ∧ nuD.is (nuC (nm (feC q.Y) % pr)))) ∧ True) ∧ True) ∧ feD.is (feC p.X)) ∧ True) ∧ True) ∧ feD.is (feC q.X)) ∧ (nuD.is (nuC (nm (feC p.X) % pr)) ∧ nuD.is (nuC (nm (feC q.X) % pr)))) ∧ (nuD.is (nuC (nn (nuC (nm (feC p.Y) % pr)) * nn (nuC (nm (feC q.Y) % pr)) % pr)) ∧ nuD.is (nuC (nn (nuC (nm (feC p.X) % pr)) * nn (nuC (nm (feC q.X) % pr)) % pr)))) ∧ True) ∧ True) ∧ True) ∧ (ptD.is (ptC p) ∧ ptD.is (ptC q))) ∧ True) ∧ True) ∧ True) ∧ True) ∧ (True ∧ ((eqB (dp (ptC p)) (dp (ptC q))) == (decide (nn (nuC (nn (nuC (nm (feC p.Y) % pr)) * nn (nuC (nm (feC q.Y) % pr)) % pr)) = nn (nuC (nn (nuC (nm (feC p.X) % pr)) * nn (nuC (nm (feC q.X) % pr)) % pr))))) = true)) ∧ True) ∧ True) ∧ True) ∧ True)) := by kernel_rfl
set_option maxHeartbeats 4000000 in
theorem eqF_p (p q : P4) (hp : Ok4 p) (hq : Ok4 q) (h0 : (decide (((p.X % pr) * (q.Y % pr) % pr) = ((p.Y % pr) * (q.X % pr) % pr))) = false) (h3 : ((eqB (p) (q)) == (decide (((p.Y % pr) * (q.Y % pr) % pr) = ((p.X % pr) * (q.X % pr) % pr)))) = true) : Pure Try.prog 7 #[.agg (ptC p), .agg (ptC q)] (.bool true) := by
  have ⟨hX, hY, hZ, hT⟩ := hp
  have ⟨kX, kY, kZ, kT⟩ := hq
  have h0 : (decide (nn (nuC (nn (nuC (nm (feC p.X) % pr)) * nn (nuC (nm (feC q.Y) % pr)) % pr)) = nn (nuC (nn (nuC (nm (feC p.Y) % pr)) * nn (nuC (nm (feC q.X) % pr)) % pr)))) = false := by
    simp only [nm_mod, nn_mod, nm_inv, nn_inv, nm_d, nn_d, nm_1, nn_1, nm_root, nn_quo, dp_ptC _ hp, dp_ptC _ hq, nm_feC _ hX, nm_feC _ hY, nm_feC _ kX, nm_feC _ kY]
    exact h0
  have h3 : ((eqB (dp (ptC p)) (dp (ptC q))) == (decide (nn (nuC (nn (nuC (nm (feC p.Y) % pr)) * nn (nuC (nm (feC q.Y) % pr)) % pr)) = nn (nuC (nn (nuC (nm (feC p.X) % pr)) * nn (nuC (nm (feC q.X) % pr)) % pr))))) = true := by
    simp only [nm_mod, nn_mod, nm_inv, nn_inv, nm_d, nn_d, nm_1, nn_1, nm_root, nn_quo, dp_ptC _ hp, dp_ptC _ hq, nm_feC _ hX, nm_feC _ hY, nm_feC _ kX, nm_feC _ kY]
    exact h3
  exact pure_of mixed Try.func7 _ (eqF_0 p q) rfl ⟨⟨⟨⟨⟨⟨⟨⟨⟨⟨⟨⟨⟨⟨⟨⟨⟨⟨⟨⟨⟨⟨⟨⟨⟨⟨⟨⟨⟨⟨⟨⟨⟨⟨⟨⟨⟨⟨⟨⟨⟨⟨⟨⟨⟨trivial, trivial⟩, trivial⟩, trivial⟩, (feD.is_enc (hp.1))⟩, trivial⟩, trivial⟩, (feD.is_enc (hq.2.1))⟩, ⟨(nuD.is_enc (mod_bd _)), (nuD.is_enc (mod_bd _))⟩⟩, trivial⟩, trivial⟩, (feD.is_enc (hp.2.1))⟩, trivial⟩, trivial⟩, (feD.is_enc (hq.1))⟩, ⟨(nuD.is_enc (mod_bd _)), (nuD.is_enc (mod_bd _))⟩⟩, ⟨⟨(nuD.is_enc (mod_bd _)), (nuD.is_enc (mod_bd _))⟩, h0⟩⟩, trivial⟩, trivial⟩, trivial⟩, (feD.is_enc (hp.2.1))⟩, trivial⟩, trivial⟩, (feD.is_enc (hq.2.1))⟩, ⟨(nuD.is_enc (mod_bd _)), (nuD.is_enc (mod_bd _))⟩⟩, trivial⟩, trivial⟩, (feD.is_enc (hp.1))⟩, trivial⟩, trivial⟩, (feD.is_enc (hq.1))⟩, ⟨(nuD.is_enc (mod_bd _)), (nuD.is_enc (mod_bd _))⟩⟩, ⟨(nuD.is_enc (mod_bd _)), (nuD.is_enc (mod_bd _))⟩⟩, trivial⟩, trivial⟩, trivial⟩, ⟨(ptD.is_enc (hp)), (ptD.is_enc (hq))⟩⟩, trivial⟩, trivial⟩, trivial⟩, trivial⟩, ⟨trivial, h3⟩⟩, trivial⟩, trivial⟩, trivial⟩, trivial⟩
theorem mm (x y : Int) : x % pr * (y % pr) % pr = x * y % pr := by rw [eml, emr]
theorem equals_c (p q : P4) (hp : Ok4 p) (hq : Ok4 q) : Pure Try.prog 7 #[.agg (ptC p), .agg (ptC q)] (.bool true) := by
  cases h : decide (p.X % pr * (q.Y % pr) % pr = p.Y % pr * (q.X % pr) % pr) with
  | true =>
    refine eqT_p p q hp hq h ?_
    rw [mm, mm] at h
    unfold eqB
    rw [emm, emm, h]; rfl
  | false =>
    refine eqF_p p q hp hq h ?_
    rw [mm, mm] at h
    unfold eqB
    rw [emm, emm, h, emm, emm, cF, mm, mm]
    simp
end Go.Proofs.Ytlbofcgjdbfenaa
