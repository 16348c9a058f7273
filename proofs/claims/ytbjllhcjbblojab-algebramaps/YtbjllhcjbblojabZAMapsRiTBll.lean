import Derived.Test.YtbjllhcjbblojabZAMapsRiTAll
set_option linter.unusedSimpArgs false
set_option linter.unusedVariables false
namespace Go.Proofs.Ytbjllhcjbblojab
open Go.RowKit Go.Ev
def tab16 : List (Entry Try.prog) := tab15
def tab17 : List (Entry Try.prog) := tab16
theorem db_encI (p : P4) : db (byC (encI p)) = encI p := db_byC _ (ok_encI p)
theorem db_rencI (p : P3) : db (byC (rencI p)) = rencI p := db_byC _ (ok_rencI p)
theorem dp_dec (n : Int) : dp (ptC (decI n)) = decI n := dp_ptC _ (ok4_dec n)
def tab18 : List (Entry Try.prog) := tab17
end Go.Proofs.Ytbjllhcjbblojab

set_option linter.unusedSimpArgs false
set_option linter.unusedVariables false
namespace Go.Proofs.Ytbjllhcjbblojab
open Go.RowKit Go.Ev
theorem byt_bys {f : Nat → Int} (h : ∀ j, 0 ≤ f j ∧ f j < 256) (j : Nat) (hj : j < 32) : byt (numL ((List.range 32).map f)) j = f j := by
  have hb := bys_bd h
  have hl : ((List.range 32).map f).length = 32 := by simp
  have hn := byL_numL _ hb
  rw [hl] at hn
  have := congrArg (fun l : List Int => l[j]?) hn
  simpa [byL, hj] using this
def lowF (f : Nat → Int) : Int := numL ((List.range 31).map f ++ [f 31 % 128])
theorem lowF_ext {f g : Nat → Int} (h : ∀ j, j < 31 → f j = g j) (h2 : f 31 % 128 = g 31 % 128) : lowF f = lowF g := by
  unfold lowF
  rw [h2, List.map_congr_left (g := g) (fun j hj => h j (List.mem_range.1 hj))]
theorem low_of {f : Nat → Int} (h : ∀ j, 0 ≤ f j ∧ f j < 256) : lowN (numL ((List.range 32).map f)) = lowF f := by
  refine lowF_ext (f := fun j => byt (numL ((List.range 32).map f)) j) (g := f) (fun j hj => byt_bys h j (by omega)) ?_
  rw [byt_bys h 31 (by omega)]
theorem mapE_F (n : Int) : mapE n = (halfE (fp (lowF (byt n)))).add (halfE (fp (lowF (fun j => byt n (32 + j))))) := by
  unfold mapE fstN fstL lstN lstL
  rw [low_of (fun j => byt_bd n j), low_of (fun j => byt_bd n (32 + j))]
theorem dp_map (n : Int) : dp (ptC (mapI n)) = mapI n := dp_ptC _ (ok4_map n)
end Go.Proofs.Ytbjllhcjbblojab

set_option linter.unusedSimpArgs false
set_option linter.unusedVariables false
/-! The document's map: halves of a row that is somebody else's. -/
namespace Go.Proofs.Ytbjllhcjbblojab
open Go.RowKit Go.Ev
def lowV (f : Nat → Int) : Array Value := (((List.range 31).map fun j => Value.int .u8 (f j)) ++ [Value.int .u8 (Int.tmod (f 31) 128)]).toArray
theorem lowV_C {f : Nat → Int} (h : ∀ j, 0 ≤ f j ∧ f j < 256) : lowV f = byC (lowF f) ∧ Ok (lowF f) := by
  have hb : ∀ x ∈ (List.range 31).map f ++ [f 31 % 128], 0 ≤ x ∧ x < 256 := fun x hx => by
    rcases List.mem_append.1 hx with hx | hx
    · obtain ⟨j, _, rfl⟩ := List.mem_map.1 hx; exact h j
    · have : x = f 31 % 128 := by simpa using hx
      omega
  have hl : ((List.range 31).map f ++ [f 31 % 128]).length = 32 := by simp
  constructor
  · rw [byC_list]
    have := byL_numL _ hb
    rw [hl] at this
    unfold lowV lowF
    rw [this, List.map_append, List.map_map, Int.tmod_eq_emod_of_nonneg (h 31).1]
    rfl
  · have := numL_bd _ hb
    rw [hl, m4_256] at this
    exact this
theorem is_lowV {f : Nat → Int} (h : ∀ j, 0 ≤ f j ∧ f j < 256) : byD.is (lowV f) := by
  rw [(lowV_C h).1]; exact byD.is_enc (lowV_C h).2
theorem db_lowV {f : Nat → Int} (h : ∀ j, 0 ≤ f j ∧ f j < 256) : db (lowV f) = lowF f := by
  rw [(lowV_C h).1]; exact db_byC _ (lowV_C h).2
theorem db_lowA (n : Int) : db (lowV (fun j => byt n j)) = lowF (byt n) := db_lowV (fun j => byt_bd n j)
theorem db_lowB (n : Int) : db (lowV (fun j => byt n (32 + j))) = lowF (fun j => byt n (32 + j)) := db_lowV (fun j => byt_bd n (32 + j))
theorem nn_mN : nn (nuC mNum) = mNum := nn_nuC _ bd_mNum
theorem nn_quoV (a b : Int) : nn (nuC (quoV a b)) = quoV a b := nn_nuC _ (bd_quoV a b)
def rhA_v0 (n : Int) : Int := db (lowV (fun j => byt n j)) % pr
def rhA_u0 (n : Int) : Int := db (lowV (fun j => byt n j)) % pr
theorem rhA_w0 (n : Int) (hn : Ok6 n) : rhA_v0 n = rhA_u0 n := by
  rfl
theorem rhA_x0 (n : Int) (hn : Ok6 n) : nn (nuC (rhA_v0 n)) = rhA_u0 n := by
  exact (nn_nuC _ (mod_bd _)).trans (rhA_w0 n hn)
def rhA_v1 (n : Int) : Int := nn (nuC (rhA_v0 n)) * nn (nuC (rhA_v0 n)) % pr
def rhA_u1 (n : Int) : Int := (rhA_u0 n) * (rhA_u0 n) % pr
theorem rhA_w1 (n : Int) (hn : Ok6 n) : rhA_v1 n = rhA_u1 n := by
  unfold rhA_v1 rhA_u1
  simp only [nm_mod, nn_mod, nm_inv, nn_inv, nm_d, nn_d, nm_1, nn_1, nm_root, nn_quo, db_lowA, nn_i, nn_absm, nn_2, nn_mN, nn_quoV, rhA_x0 n hn]
theorem rhA_x1 (n : Int) (hn : Ok6 n) : nn (nuC (rhA_v1 n)) = rhA_u1 n := by
  exact (nn_nuC _ (mod_bd _)).trans (rhA_w1 n hn)
def rhA_v2 (n : Int) : Int := nn (nuC iNum) * nn (nuC (rhA_v1 n)) % pr
def rhA_u2 (n : Int) : Int := iNum * (rhA_u1 n) % pr
theorem rhA_w2 (n : Int) (hn : Ok6 n) : rhA_v2 n = rhA_u2 n := by
  unfold rhA_v2 rhA_u2
  simp only [nm_mod, nn_mod, nm_inv, nn_inv, nm_d, nn_d, nm_1, nn_1, nm_root, nn_quo, db_lowA, nn_i, nn_absm, nn_2, nn_mN, nn_quoV, rhA_x1 n hn]
theorem rhA_x2 (n : Int) (hn : Ok6 n) : nn (nuC (rhA_v2 n)) = rhA_u2 n := by
  exact (nn_nuC _ (mod_bd _)).trans (rhA_w2 n hn)
def rhA_v3 (n : Int) : Int := (nn (nuC (rhA_v2 n)) + nn (nuC 1)) % pr
def rhA_u3 (n : Int) : Int := ((rhA_u2 n) + 1) % pr
theorem rhA_w3 (n : Int) (hn : Ok6 n) : rhA_v3 n = rhA_u3 n := by
  unfold rhA_v3 rhA_u3
  simp only [nm_mod, nn_mod, nm_inv, nn_inv, nm_d, nn_d, nm_1, nn_1, nm_root, nn_quo, db_lowA, nn_i, nn_absm, nn_2, nn_mN, nn_quoV, rhA_x2 n hn]
theorem rhA_x3 (n : Int) (hn : Ok6 n) : nn (nuC (rhA_v3 n)) = rhA_u3 n := by
  exact (nn_nuC _ (mod_bd _)).trans (rhA_w3 n hn)
def rhA_v4 (n : Int) : Int := nn (nuC dN) * nn (nuC dN) % pr
def rhA_u4 (n : Int) : Int := dN * dN % pr
theorem rhA_w4 (n : Int) (hn : Ok6 n) : rhA_v4 n = rhA_u4 n := by
  unfold rhA_v4 rhA_u4
  simp only [nm_mod, nn_mod, nm_inv, nn_inv, nm_d, nn_d, nm_1, nn_1, nm_root, nn_quo, db_lowA, nn_i, nn_absm, nn_2, nn_mN, nn_quoV]
theorem rhA_x4 (n : Int) (hn : Ok6 n) : nn (nuC (rhA_v4 n)) = rhA_u4 n := by
  exact (nn_nuC _ (mod_bd _)).trans (rhA_w4 n hn)
def rhA_v5 (n : Int) : Int := (nn (nuC 1) - nn (nuC (rhA_v4 n))) % pr
def rhA_u5 (n : Int) : Int := (1 - (rhA_u4 n)) % pr
theorem rhA_w5 (n : Int) (hn : Ok6 n) : rhA_v5 n = rhA_u5 n := by
  unfold rhA_v5 rhA_u5
  simp only [nm_mod, nn_mod, nm_inv, nn_inv, nm_d, nn_d, nm_1, nn_1, nm_root, nn_quo, db_lowA, nn_i, nn_absm, nn_2, nn_mN, nn_quoV, rhA_x4 n hn]
theorem rhA_x5 (n : Int) (hn : Ok6 n) : nn (nuC (rhA_v5 n)) = rhA_u5 n := by
  exact (nn_nuC _ (mod_bd _)).trans (rhA_w5 n hn)
def rhA_v6 (n : Int) : Int := nn (nuC (rhA_v3 n)) * nn (nuC (rhA_v5 n)) % pr
def rhA_u6 (n : Int) : Int := (rhA_u3 n) * (rhA_u5 n) % pr
theorem rhA_w6 (n : Int) (hn : Ok6 n) : rhA_v6 n = rhA_u6 n := by
  unfold rhA_v6 rhA_u6
  simp only [nm_mod, nn_mod, nm_inv, nn_inv, nm_d, nn_d, nm_1, nn_1, nm_root, nn_quo, db_lowA, nn_i, nn_absm, nn_2, nn_mN, nn_quoV, rhA_x3 n hn, rhA_x5 n hn]
theorem rhA_x6 (n : Int) (hn : Ok6 n) : nn (nuC (rhA_v6 n)) = rhA_u6 n := by
  exact (nn_nuC _ (mod_bd _)).trans (rhA_w6 n hn)
def rhA_v7 (n : Int) : Int := nn (nuC (rhA_v2 n)) * nn (nuC dN) % pr
def rhA_u7 (n : Int) : Int := (rhA_u2 n) * dN % pr
theorem rhA_w7 (n : Int) (hn : Ok6 n) : rhA_v7 n = rhA_u7 n := by
  unfold rhA_v7 rhA_u7
  simp only [nm_mod, nn_mod, nm_inv, nn_inv, nm_d, nn_d, nm_1, nn_1, nm_root, nn_quo, db_lowA, nn_i, nn_absm, nn_2, nn_mN, nn_quoV, rhA_x2 n hn]
theorem rhA_x7 (n : Int) (hn : Ok6 n) : nn (nuC (rhA_v7 n)) = rhA_u7 n := by
  exact (nn_nuC _ (mod_bd _)).trans (rhA_w7 n hn)
def rhA_v8 (n : Int) : Int := (nn (nuC (-(nn (nuC 1)) % pr)) - nn (nuC (rhA_v7 n))) % pr
def rhA_u8 (n : Int) : Int := ((-(1) % pr) - (rhA_u7 n)) % pr
theorem rhA_w8 (n : Int) (hn : Ok6 n) : rhA_v8 n = rhA_u8 n := by
  unfold rhA_v8 rhA_u8
  simp only [nm_mod, nn_mod, nm_inv, nn_inv, nm_d, nn_d, nm_1, nn_1, nm_root, nn_quo, db_lowA, nn_i, nn_absm, nn_2, nn_mN, nn_quoV, rhA_x7 n hn]
theorem rhA_x8 (n : Int) (hn : Ok6 n) : nn (nuC (rhA_v8 n)) = rhA_u8 n := by
  exact (nn_nuC _ (mod_bd _)).trans (rhA_w8 n hn)
def rhA_v9 (n : Int) : Int := (nn (nuC (rhA_v2 n)) + nn (nuC dN)) % pr
def rhA_u9 (n : Int) : Int := ((rhA_u2 n) + dN) % pr
theorem rhA_w9 (n : Int) (hn : Ok6 n) : rhA_v9 n = rhA_u9 n := by
  unfold rhA_v9 rhA_u9
  simp only [nm_mod, nn_mod, nm_inv, nn_inv, nm_d, nn_d, nm_1, nn_1, nm_root, nn_quo, db_lowA, nn_i, nn_absm, nn_2, nn_mN, nn_quoV, rhA_x2 n hn]
theorem rhA_x9 (n : Int) (hn : Ok6 n) : nn (nuC (rhA_v9 n)) = rhA_u9 n := by
  exact (nn_nuC _ (mod_bd _)).trans (rhA_w9 n hn)
def rhA_v10 (n : Int) : Int := nn (nuC (rhA_v8 n)) * nn (nuC (rhA_v9 n)) % pr
def rhA_u10 (n : Int) : Int := (rhA_u8 n) * (rhA_u9 n) % pr
theorem rhA_w10 (n : Int) (hn : Ok6 n) : rhA_v10 n = rhA_u10 n := by
  unfold rhA_v10 rhA_u10
  simp only [nm_mod, nn_mod, nm_inv, nn_inv, nm_d, nn_d, nm_1, nn_1, nm_root, nn_quo, db_lowA, nn_i, nn_absm, nn_2, nn_mN, nn_quoV, rhA_x8 n hn, rhA_x9 n hn]
theorem rhA_x10 (n : Int) (hn : Ok6 n) : nn (nuC (rhA_v10 n)) = rhA_u10 n := by
  exact (nn_nuC _ (mod_bd _)).trans (rhA_w10 n hn)
def rhA_v11 (n : Int) : Int := quoV (nn (nuC (rhA_v6 n))) (nn (nuC (rhA_v10 n)))
def rhA_u11 (n : Int) : Int := quoV ((rhA_u6 n)) ((rhA_u10 n))
theorem rhA_w11 (n : Int) (hn : Ok6 n) : rhA_v11 n = rhA_u11 n := by
  unfold rhA_v11 rhA_u11
  simp only [nm_mod, nn_mod, nm_inv, nn_inv, nm_d, nn_d, nm_1, nn_1, nm_root, nn_quo, db_lowA, nn_i, nn_absm, nn_2, nn_mN, nn_quoV, rhA_x6 n hn, rhA_x10 n hn]
theorem rhA_x11 (n : Int) (hn : Ok6 n) : nn (nuC (rhA_v11 n)) = rhA_u11 n := by
  exact (nn_nuC _ (bd_quoV _ _)).trans (rhA_w11 n hn)
def rhA_v12 (n : Int) : Int := (nn (nuC dN) - nn (nuC 1)) % pr
def rhA_u12 (n : Int) : Int := (dN - 1) % pr
theorem rhA_w12 (n : Int) (hn : Ok6 n) : rhA_v12 n = rhA_u12 n := by
  unfold rhA_v12 rhA_u12
  simp only [nm_mod, nn_mod, nm_inv, nn_inv, nm_d, nn_d, nm_1, nn_1, nm_root, nn_quo, db_lowA, nn_i, nn_absm, nn_2, nn_mN, nn_quoV]
theorem rhA_x12 (n : Int) (hn : Ok6 n) : nn (nuC (rhA_v12 n)) = rhA_u12 n := by
  exact (nn_nuC _ (mod_bd _)).trans (rhA_w12 n hn)
def rhA_v13 (n : Int) : Int := (nn (nuC (rhA_v2 n)) - nn (nuC 1)) % pr
def rhA_u13 (n : Int) : Int := ((rhA_u2 n) - 1) % pr
theorem rhA_w13 (n : Int) (hn : Ok6 n) : rhA_v13 n = rhA_u13 n := by
  unfold rhA_v13 rhA_u13
  simp only [nm_mod, nn_mod, nm_inv, nn_inv, nm_d, nn_d, nm_1, nn_1, nm_root, nn_quo, db_lowA, nn_i, nn_absm, nn_2, nn_mN, nn_quoV, rhA_x2 n hn]
theorem rhA_x13 (n : Int) (hn : Ok6 n) : nn (nuC (rhA_v13 n)) = rhA_u13 n := by
  exact (nn_nuC _ (mod_bd _)).trans (rhA_w13 n hn)
def rhA_v14 (n : Int) : Int := nn (nuC (-(nn (nuC 1)) % pr)) * nn (nuC (rhA_v13 n)) % pr
def rhA_u14 (n : Int) : Int := (-(1) % pr) * (rhA_u13 n) % pr
theorem rhA_w14 (n : Int) (hn : Ok6 n) : rhA_v14 n = rhA_u14 n := by
  unfold rhA_v14 rhA_u14
  simp only [nm_mod, nn_mod, nm_inv, nn_inv, nm_d, nn_d, nm_1, nn_1, nm_root, nn_quo, db_lowA, nn_i, nn_absm, nn_2, nn_mN, nn_quoV, rhA_x13 n hn]
theorem rhA_x14 (n : Int) (hn : Ok6 n) : nn (nuC (rhA_v14 n)) = rhA_u14 n := by
  exact (nn_nuC _ (mod_bd _)).trans (rhA_w14 n hn)
def rhA_v15 (n : Int) : Int := nn (nuC (rhA_v12 n)) * nn (nuC (rhA_v12 n)) % pr
def rhA_u15 (n : Int) : Int := (rhA_u12 n) * (rhA_u12 n) % pr
theorem rhA_w15 (n : Int) (hn : Ok6 n) : rhA_v15 n = rhA_u15 n := by
  unfold rhA_v15 rhA_u15
  simp only [nm_mod, nn_mod, nm_inv, nn_inv, nm_d, nn_d, nm_1, nn_1, nm_root, nn_quo, db_lowA, nn_i, nn_absm, nn_2, nn_mN, nn_quoV, rhA_x12 n hn]
theorem rhA_x15 (n : Int) (hn : Ok6 n) : nn (nuC (rhA_v15 n)) = rhA_u15 n := by
  exact (nn_nuC _ (mod_bd _)).trans (rhA_w15 n hn)
def rhA_v16 (n : Int) : Int := nn (nuC (rhA_v14 n)) * nn (nuC (rhA_v15 n)) % pr
def rhA_u16 (n : Int) : Int := (rhA_u14 n) * (rhA_u15 n) % pr
theorem rhA_w16 (n : Int) (hn : Ok6 n) : rhA_v16 n = rhA_u16 n := by
  unfold rhA_v16 rhA_u16
  simp only [nm_mod, nn_mod, nm_inv, nn_inv, nm_d, nn_d, nm_1, nn_1, nm_root, nn_quo, db_lowA, nn_i, nn_absm, nn_2, nn_mN, nn_quoV, rhA_x14 n hn, rhA_x15 n hn]
theorem rhA_x16 (n : Int) (hn : Ok6 n) : nn (nuC (rhA_v16 n)) = rhA_u16 n := by
  exact (nn_nuC _ (mod_bd _)).trans (rhA_w16 n hn)
def rhA_v17 (n : Int) : Int := (nn (nuC (rhA_v16 n)) - nn (nuC (rhA_v10 n))) % pr
def rhA_u17 (n : Int) : Int := ((rhA_u16 n) - (rhA_u10 n)) % pr
theorem rhA_w17 (n : Int) (hn : Ok6 n) : rhA_v17 n = rhA_u17 n := by
  unfold rhA_v17 rhA_u17
  simp only [nm_mod, nn_mod, nm_inv, nn_inv, nm_d, nn_d, nm_1, nn_1, nm_root, nn_quo, db_lowA, nn_i, nn_absm, nn_2, nn_mN, nn_quoV, rhA_x10 n hn, rhA_x16 n hn]
theorem rhA_x17 (n : Int) (hn : Ok6 n) : nn (nuC (rhA_v17 n)) = rhA_u17 n := by
  exact (nn_nuC _ (mod_bd _)).trans (rhA_w17 n hn)
def rhA_v18 (n : Int) : Int := nn (nuC (rhA_v11 n)) * nn (nuC (rhA_v10 n)) % pr
def rhA_u18 (n : Int) : Int := (rhA_u11 n) * (rhA_u10 n) % pr
theorem rhA_w18 (n : Int) (hn : Ok6 n) : rhA_v18 n = rhA_u18 n := by
  unfold rhA_v18 rhA_u18
  simp only [nm_mod, nn_mod, nm_inv, nn_inv, nm_d, nn_d, nm_1, nn_1, nm_root, nn_quo, db_lowA, nn_i, nn_absm, nn_2, nn_mN, nn_quoV, rhA_x10 n hn, rhA_x11 n hn]
theorem rhA_x18 (n : Int) (hn : Ok6 n) : nn (nuC (rhA_v18 n)) = rhA_u18 n := by
  exact (nn_nuC _ (mod_bd _)).trans (rhA_w18 n hn)
def rhA_v19 (n : Int) : Int := nn (nuC 2) * nn (nuC (rhA_v18 n)) % pr
def rhA_u19 (n : Int) : Int := 2 * (rhA_u18 n) % pr
theorem rhA_w19 (n : Int) (hn : Ok6 n) : rhA_v19 n = rhA_u19 n := by
  unfold rhA_v19 rhA_u19
  simp only [nm_mod, nn_mod, nm_inv, nn_inv, nm_d, nn_d, nm_1, nn_1, nm_root, nn_quo, db_lowA, nn_i, nn_absm, nn_2, nn_mN, nn_quoV, rhA_x18 n hn]
theorem rhA_x19 (n : Int) (hn : Ok6 n) : nn (nuC (rhA_v19 n)) = rhA_u19 n := by
  exact (nn_nuC _ (mod_bd _)).trans (rhA_w19 n hn)
def rhA_v20 (n : Int) : Int := nn (nuC (rhA_v17 n)) * nn (nuC mNum) % pr
def rhA_u20 (n : Int) : Int := (rhA_u17 n) * mNum % pr
theorem rhA_w20 (n : Int) (hn : Ok6 n) : rhA_v20 n = rhA_u20 n := by
  unfold rhA_v20 rhA_u20
  simp only [nm_mod, nn_mod, nm_inv, nn_inv, nm_d, nn_d, nm_1, nn_1, nm_root, nn_quo, db_lowA, nn_i, nn_absm, nn_2, nn_mN, nn_quoV, rhA_x17 n hn]
theorem rhA_x20 (n : Int) (hn : Ok6 n) : nn (nuC (rhA_v20 n)) = rhA_u20 n := by
  exact (nn_nuC _ (mod_bd _)).trans (rhA_w20 n hn)
def rhA_v21 (n : Int) : Int := nn (nuC (rhA_v11 n)) * nn (nuC (rhA_v11 n)) % pr
def rhA_u21 (n : Int) : Int := (rhA_u11 n) * (rhA_u11 n) % pr
theorem rhA_w21 (n : Int) (hn : Ok6 n) : rhA_v21 n = rhA_u21 n := by
  unfold rhA_v21 rhA_u21
  simp only [nm_mod, nn_mod, nm_inv, nn_inv, nm_d, nn_d, nm_1, nn_1, nm_root, nn_quo, db_lowA, nn_i, nn_absm, nn_2, nn_mN, nn_quoV, rhA_x11 n hn]
theorem rhA_x21 (n : Int) (hn : Ok6 n) : nn (nuC (rhA_v21 n)) = rhA_u21 n := by
  exact (nn_nuC _ (mod_bd _)).trans (rhA_w21 n hn)
def rhA_v22 (n : Int) : Int := (nn (nuC 1) - nn (nuC (rhA_v21 n))) % pr
def rhA_u22 (n : Int) : Int := (1 - (rhA_u21 n)) % pr
theorem rhA_w22 (n : Int) (hn : Ok6 n) : rhA_v22 n = rhA_u22 n := by
  unfold rhA_v22 rhA_u22
  simp only [nm_mod, nn_mod, nm_inv, nn_inv, nm_d, nn_d, nm_1, nn_1, nm_root, nn_quo, db_lowA, nn_i, nn_absm, nn_2, nn_mN, nn_quoV, rhA_x21 n hn]
theorem rhA_x22 (n : Int) (hn : Ok6 n) : nn (nuC (rhA_v22 n)) = rhA_u22 n := by
  exact (nn_nuC _ (mod_bd _)).trans (rhA_w22 n hn)
def rhA_v23 (n : Int) : Int := (nn (nuC 1) + nn (nuC (rhA_v21 n))) % pr
def rhA_u23 (n : Int) : Int := (1 + (rhA_u21 n)) % pr
theorem rhA_w23 (n : Int) (hn : Ok6 n) : rhA_v23 n = rhA_u23 n := by
  unfold rhA_v23 rhA_u23
  simp only [nm_mod, nn_mod, nm_inv, nn_inv, nm_d, nn_d, nm_1, nn_1, nm_root, nn_quo, db_lowA, nn_i, nn_absm, nn_2, nn_mN, nn_quoV, rhA_x21 n hn]
theorem rhA_x23 (n : Int) (hn : Ok6 n) : nn (nuC (rhA_v23 n)) = rhA_u23 n := by
  exact (nn_nuC _ (mod_bd _)).trans (rhA_w23 n hn)
def rhA_v24 (n : Int) : Int := nn (nuC (rhA_v19 n)) * nn (nuC (rhA_v23 n)) % pr
def rhA_u24 (n : Int) : Int := (rhA_u19 n) * (rhA_u23 n) % pr
theorem rhA_w24 (n : Int) (hn : Ok6 n) : rhA_v24 n = rhA_u24 n := by
  unfold rhA_v24 rhA_u24
  simp only [nm_mod, nn_mod, nm_inv, nn_inv, nm_d, nn_d, nm_1, nn_1, nm_root, nn_quo, db_lowA, nn_i, nn_absm, nn_2, nn_mN, nn_quoV, rhA_x19 n hn, rhA_x23 n hn]
theorem rhA_x24 (n : Int) (hn : Ok6 n) : nn (nuC (rhA_v24 n)) = rhA_u24 n := by
  exact (nn_nuC _ (mod_bd _)).trans (rhA_w24 n hn)
def rhA_v25 (n : Int) : Int := nn (nuC (rhA_v22 n)) * nn (nuC (rhA_v20 n)) % pr
def rhA_u25 (n : Int) : Int := (rhA_u22 n) * (rhA_u20 n) % pr
theorem rhA_w25 (n : Int) (hn : Ok6 n) : rhA_v25 n = rhA_u25 n := by
  unfold rhA_v25 rhA_u25
  simp only [nm_mod, nn_mod, nm_inv, nn_inv, nm_d, nn_d, nm_1, nn_1, nm_root, nn_quo, db_lowA, nn_i, nn_absm, nn_2, nn_mN, nn_quoV, rhA_x20 n hn, rhA_x22 n hn]
theorem rhA_x25 (n : Int) (hn : Ok6 n) : nn (nuC (rhA_v25 n)) = rhA_u25 n := by
  exact (nn_nuC _ (mod_bd _)).trans (rhA_w25 n hn)
def rhA_v26 (n : Int) : Int := nn (nuC (rhA_v20 n)) * nn (nuC (rhA_v23 n)) % pr
def rhA_u26 (n : Int) : Int := (rhA_u20 n) * (rhA_u23 n) % pr
theorem rhA_w26 (n : Int) (hn : Ok6 n) : rhA_v26 n = rhA_u26 n := by
  unfold rhA_v26 rhA_u26
  simp only [nm_mod, nn_mod, nm_inv, nn_inv, nm_d, nn_d, nm_1, nn_1, nm_root, nn_quo, db_lowA, nn_i, nn_absm, nn_2, nn_mN, nn_quoV, rhA_x20 n hn, rhA_x23 n hn]
theorem rhA_x26 (n : Int) (hn : Ok6 n) : nn (nuC (rhA_v26 n)) = rhA_u26 n := by
  exact (nn_nuC _ (mod_bd _)).trans (rhA_w26 n hn)
def rhA_v27 (n : Int) : Int := nn (nuC (rhA_v11 n)) * nn (nuC (rhA_v0 n)) % pr
def rhA_u27 (n : Int) : Int := (rhA_u11 n) * (rhA_u0 n) % pr
theorem rhA_w27 (n : Int) (hn : Ok6 n) : rhA_v27 n = rhA_u27 n := by
  unfold rhA_v27 rhA_u27
  simp only [nm_mod, nn_mod, nm_inv, nn_inv, nm_d, nn_d, nm_1, nn_1, nm_root, nn_quo, db_lowA, nn_i, nn_absm, nn_2, nn_mN, nn_quoV, rhA_x0 n hn, rhA_x11 n hn]
theorem rhA_x27 (n : Int) (hn : Ok6 n) : nn (nuC (rhA_v27 n)) = rhA_u27 n := by
  exact (nn_nuC _ (mod_bd _)).trans (rhA_w27 n hn)
def rhA_v28 (n : Int) : Int := absR (nn (nuC (rhA_v27 n)))
def rhA_u28 (n : Int) : Int := absR ((rhA_u27 n))
theorem rhA_w28 (n : Int) (hn : Ok6 n) : rhA_v28 n = rhA_u28 n := by
  unfold rhA_v28 rhA_u28
  simp only [nm_mod, nn_mod, nm_inv, nn_inv, nm_d, nn_d, nm_1, nn_1, nm_root, nn_quo, db_lowA, nn_i, nn_absm, nn_2, nn_mN, nn_quoV, rhA_x27 n hn]
theorem rhA_x28 (n : Int) (hn : Ok6 n) : nn (nuC (rhA_v28 n)) = rhA_u28 n := by
  exact (nn_nuC _ (bd_absR _ (bd_nn (mod_bd _)))).trans (rhA_w28 n hn)
def rhA_v29 (n : Int) : Int := -(nn (nuC (rhA_v28 n))) % pr
def rhA_u29 (n : Int) : Int := -((rhA_u28 n)) % pr
theorem rhA_w29 (n : Int) (hn : Ok6 n) : rhA_v29 n = rhA_u29 n := by
  unfold rhA_v29 rhA_u29
  simp only [nm_mod, nn_mod, nm_inv, nn_inv, nm_d, nn_d, nm_1, nn_1, nm_root, nn_quo, db_lowA, nn_i, nn_absm, nn_2, nn_mN, nn_quoV, rhA_x28 n hn]
theorem rhA_x29 (n : Int) (hn : Ok6 n) : nn (nuC (rhA_v29 n)) = rhA_u29 n := by
  exact (nn_nuC _ (mod_bd _)).trans (rhA_w29 n hn)
def rhA_v30 (n : Int) : Int := nn (nuC (rhA_v2 n)) * nn (nuC (rhA_v13 n)) % pr
def rhA_u30 (n : Int) : Int := (rhA_u2 n) * (rhA_u13 n) % pr
theorem rhA_w30 (n : Int) (hn : Ok6 n) : rhA_v30 n = rhA_u30 n := by
  unfold rhA_v30 rhA_u30
  simp only [nm_mod, nn_mod, nm_inv, nn_inv, nm_d, nn_d, nm_1, nn_1, nm_root, nn_quo, db_lowA, nn_i, nn_absm, nn_2, nn_mN, nn_quoV, rhA_x2 n hn, rhA_x13 n hn]
theorem rhA_x30 (n : Int) (hn : Ok6 n) : nn (nuC (rhA_v30 n)) = rhA_u30 n := by
  exact (nn_nuC _ (mod_bd _)).trans (rhA_w30 n hn)
def rhA_v31 (n : Int) : Int := nn (nuC (rhA_v30 n)) * nn (nuC (rhA_v15 n)) % pr
def rhA_u31 (n : Int) : Int := (rhA_u30 n) * (rhA_u15 n) % pr
theorem rhA_w31 (n : Int) (hn : Ok6 n) : rhA_v31 n = rhA_u31 n := by
  unfold rhA_v31 rhA_u31
  simp only [nm_mod, nn_mod, nm_inv, nn_inv, nm_d, nn_d, nm_1, nn_1, nm_root, nn_quo, db_lowA, nn_i, nn_absm, nn_2, nn_mN, nn_quoV, rhA_x15 n hn, rhA_x30 n hn]
theorem rhA_x31 (n : Int) (hn : Ok6 n) : nn (nuC (rhA_v31 n)) = rhA_u31 n := by
  exact (nn_nuC _ (mod_bd _)).trans (rhA_w31 n hn)
def rhA_v32 (n : Int) : Int := (nn (nuC (rhA_v31 n)) - nn (nuC (rhA_v10 n))) % pr
def rhA_u32 (n : Int) : Int := ((rhA_u31 n) - (rhA_u10 n)) % pr
theorem rhA_w32 (n : Int) (hn : Ok6 n) : rhA_v32 n = rhA_u32 n := by
  unfold rhA_v32 rhA_u32
  simp only [nm_mod, nn_mod, nm_inv, nn_inv, nm_d, nn_d, nm_1, nn_1, nm_root, nn_quo, db_lowA, nn_i, nn_absm, nn_2, nn_mN, nn_quoV, rhA_x10 n hn, rhA_x31 n hn]
theorem rhA_x32 (n : Int) (hn : Ok6 n) : nn (nuC (rhA_v32 n)) = rhA_u32 n := by
  exact (nn_nuC _ (mod_bd _)).trans (rhA_w32 n hn)
def rhA_v33 (n : Int) : Int := nn (nuC (rhA_v29 n)) * nn (nuC (rhA_v10 n)) % pr
def rhA_u33 (n : Int) : Int := (rhA_u29 n) * (rhA_u10 n) % pr
theorem rhA_w33 (n : Int) (hn : Ok6 n) : rhA_v33 n = rhA_u33 n := by
  unfold rhA_v33 rhA_u33
  simp only [nm_mod, nn_mod, nm_inv, nn_inv, nm_d, nn_d, nm_1, nn_1, nm_root, nn_quo, db_lowA, nn_i, nn_absm, nn_2, nn_mN, nn_quoV, rhA_x10 n hn, rhA_x29 n hn]
theorem rhA_x33 (n : Int) (hn : Ok6 n) : nn (nuC (rhA_v33 n)) = rhA_u33 n := by
  exact (nn_nuC _ (mod_bd _)).trans (rhA_w33 n hn)
def rhA_v34 (n : Int) : Int := nn (nuC 2) * nn (nuC (rhA_v33 n)) % pr
def rhA_u34 (n : Int) : Int := 2 * (rhA_u33 n) % pr
theorem rhA_w34 (n : Int) (hn : Ok6 n) : rhA_v34 n = rhA_u34 n := by
  unfold rhA_v34 rhA_u34
  simp only [nm_mod, nn_mod, nm_inv, nn_inv, nm_d, nn_d, nm_1, nn_1, nm_root, nn_quo, db_lowA, nn_i, nn_absm, nn_2, nn_mN, nn_quoV, rhA_x33 n hn]
theorem rhA_x34 (n : Int) (hn : Ok6 n) : nn (nuC (rhA_v34 n)) = rhA_u34 n := by
  exact (nn_nuC _ (mod_bd _)).trans (rhA_w34 n hn)
def rhA_v35 (n : Int) : Int := nn (nuC (rhA_v32 n)) * nn (nuC mNum) % pr
def rhA_u35 (n : Int) : Int := (rhA_u32 n) * mNum % pr
theorem rhA_w35 (n : Int) (hn : Ok6 n) : rhA_v35 n = rhA_u35 n := by
  unfold rhA_v35 rhA_u35
  simp only [nm_mod, nn_mod, nm_inv, nn_inv, nm_d, nn_d, nm_1, nn_1, nm_root, nn_quo, db_lowA, nn_i, nn_absm, nn_2, nn_mN, nn_quoV, rhA_x32 n hn]
theorem rhA_x35 (n : Int) (hn : Ok6 n) : nn (nuC (rhA_v35 n)) = rhA_u35 n := by
  exact (nn_nuC _ (mod_bd _)).trans (rhA_w35 n hn)
def rhA_v36 (n : Int) : Int := nn (nuC (rhA_v29 n)) * nn (nuC (rhA_v29 n)) % pr
def rhA_u36 (n : Int) : Int := (rhA_u29 n) * (rhA_u29 n) % pr
theorem rhA_w36 (n : Int) (hn : Ok6 n) : rhA_v36 n = rhA_u36 n := by
  unfold rhA_v36 rhA_u36
  simp only [nm_mod, nn_mod, nm_inv, nn_inv, nm_d, nn_d, nm_1, nn_1, nm_root, nn_quo, db_lowA, nn_i, nn_absm, nn_2, nn_mN, nn_quoV, rhA_x29 n hn]
theorem rhA_x36 (n : Int) (hn : Ok6 n) : nn (nuC (rhA_v36 n)) = rhA_u36 n := by
  exact (nn_nuC _ (mod_bd _)).trans (rhA_w36 n hn)
def rhA_v37 (n : Int) : Int := (nn (nuC 1) - nn (nuC (rhA_v36 n))) % pr
def rhA_u37 (n : Int) : Int := (1 - (rhA_u36 n)) % pr
theorem rhA_w37 (n : Int) (hn : Ok6 n) : rhA_v37 n = rhA_u37 n := by
  unfold rhA_v37 rhA_u37
  simp only [nm_mod, nn_mod, nm_inv, nn_inv, nm_d, nn_d, nm_1, nn_1, nm_root, nn_quo, db_lowA, nn_i, nn_absm, nn_2, nn_mN, nn_quoV, rhA_x36 n hn]
theorem rhA_x37 (n : Int) (hn : Ok6 n) : nn (nuC (rhA_v37 n)) = rhA_u37 n := by
  exact (nn_nuC _ (mod_bd _)).trans (rhA_w37 n hn)
def rhA_v38 (n : Int) : Int := (nn (nuC 1) + nn (nuC (rhA_v36 n))) % pr
def rhA_u38 (n : Int) : Int := (1 + (rhA_u36 n)) % pr
theorem rhA_w38 (n : Int) (hn : Ok6 n) : rhA_v38 n = rhA_u38 n := by
  unfold rhA_v38 rhA_u38
  simp only [nm_mod, nn_mod, nm_inv, nn_inv, nm_d, nn_d, nm_1, nn_1, nm_root, nn_quo, db_lowA, nn_i, nn_absm, nn_2, nn_mN, nn_quoV, rhA_x36 n hn]
theorem rhA_x38 (n : Int) (hn : Ok6 n) : nn (nuC (rhA_v38 n)) = rhA_u38 n := by
  exact (nn_nuC _ (mod_bd _)).trans (rhA_w38 n hn)
def rhA_v39 (n : Int) : Int := nn (nuC (rhA_v34 n)) * nn (nuC (rhA_v38 n)) % pr
def rhA_u39 (n : Int) : Int := (rhA_u34 n) * (rhA_u38 n) % pr
theorem rhA_w39 (n : Int) (hn : Ok6 n) : rhA_v39 n = rhA_u39 n := by
  unfold rhA_v39 rhA_u39
  simp only [nm_mod, nn_mod, nm_inv, nn_inv, nm_d, nn_d, nm_1, nn_1, nm_root, nn_quo, db_lowA, nn_i, nn_absm, nn_2, nn_mN, nn_quoV, rhA_x34 n hn, rhA_x38 n hn]
theorem rhA_x39 (n : Int) (hn : Ok6 n) : nn (nuC (rhA_v39 n)) = rhA_u39 n := by
  exact (nn_nuC _ (mod_bd _)).trans (rhA_w39 n hn)
def rhA_v40 (n : Int) : Int := nn (nuC (rhA_v37 n)) * nn (nuC (rhA_v35 n)) % pr
def rhA_u40 (n : Int) : Int := (rhA_u37 n) * (rhA_u35 n) % pr
theorem rhA_w40 (n : Int) (hn : Ok6 n) : rhA_v40 n = rhA_u40 n := by
  unfold rhA_v40 rhA_u40
  simp only [nm_mod, nn_mod, nm_inv, nn_inv, nm_d, nn_d, nm_1, nn_1, nm_root, nn_quo, db_lowA, nn_i, nn_absm, nn_2, nn_mN, nn_quoV, rhA_x35 n hn, rhA_x37 n hn]
theorem rhA_x40 (n : Int) (hn : Ok6 n) : nn (nuC (rhA_v40 n)) = rhA_u40 n := by
  exact (nn_nuC _ (mod_bd _)).trans (rhA_w40 n hn)
def rhA_v41 (n : Int) : Int := nn (nuC (rhA_v35 n)) * nn (nuC (rhA_v38 n)) % pr
def rhA_u41 (n : Int) : Int := (rhA_u35 n) * (rhA_u38 n) % pr
theorem rhA_w41 (n : Int) (hn : Ok6 n) : rhA_v41 n = rhA_u41 n := by
  unfold rhA_v41 rhA_u41
  simp only [nm_mod, nn_mod, nm_inv, nn_inv, nm_d, nn_d, nm_1, nn_1, nm_root, nn_quo, db_lowA, nn_i, nn_absm, nn_2, nn_mN, nn_quoV, rhA_x35 n hn, rhA_x38 n hn]
theorem rhA_x41 (n : Int) (hn : Ok6 n) : nn (nuC (rhA_v41 n)) = rhA_u41 n := by
  exact (nn_nuC _ (mod_bd _)).trans (rhA_w41 n hn)
def rhA_h (i : Nat) : Hn := if i = 10 then ⟨6, [], [], [], []⟩ else if i = 11 then ⟨10, [], [], [], []⟩ else if i = 12 then ⟨11, [], [], [], []⟩ else if i = 19 then ⟨12, [], [], [], []⟩ else if i = 20 then ⟨6, [], [], [], []⟩ else if i = 21 then ⟨4, [], [], [], []⟩ else if i = 22 then ⟨6, [], [], [], []⟩ else if i = 23 then ⟨6, [], [], [], []⟩ else if i = 24 then ⟨10, [], [], [], []⟩ else ⟨0, [], [], [], []⟩
set_option maxRecDepth 100000 in
theorem rhA_0 (n : Int) : evG (yty.enf tab15 1) rhA_h Try.f67 [((b6C n), 22)] [.slice (some ⟨0, 0, none⟩) 32 64] [none, none, none, none, none, none, none, none, none, none, none, none, none, none, none, none, none, none, none, none, none, none, none, none, none, none, none, none, none, none, none, none, none, none, none, none, none, none, none, none, none, none, none, none, none, none, none, none, none, none, none, none, none, none, none, none, none, none, none, none, none, none, none, none, none, none, none, none, none, none, none, none, none, none, none, none, none, none, none, none, none, none, none, none, none, none, none, none, none, none, none, none, none, none, none, none, none, none, none, none, some (.bool true)] = some (.agg (rpC (⟨(rhA_v24 n), (rhA_v25 n), (rhA_v26 n)⟩ : P3)), ((((((((((((((((((((((((((((((((((((((((((((((((((((((((((((((((((((((((((((((((((((((((((((((((((((((((((((((((((((((((((((((((((((((((((((((((((((((((((((((((((((((((((((((((((((((((((((((((((((((((((((((((((((((((((((((((((((((((((((((((((((((((((((((((((((((((((((((((((((((((((((((((((((((((((((((((((((((((((((((((((((((((((((((((((((((((((((((((((((((((((((((((((((((((((((((((((((((((((((((((((((((((((((((((((((((((((((((((((((((((((((((((((((((((((((((((((((((((((((((((((((((((((((True ∧ True) ∧ True) ∧ True) ∧ True) ∧ True) ∧ True) ∧ ((0 : Int) ≤ 0 ∧ (0 : Int) < ((32 : Nat) : Int))) ∧ True) ∧ ((0 : Int) ≤ 0 ∧ (0 : Int) < ((32 : Nat) : Int))) ∧ True) ∧ True) ∧ True) ∧ True) ∧ True) ∧ True) ∧ True) ∧ True) ∧ True) ∧ ((0 : Int) ≤ 1 ∧ (1 : Int) < ((32 : Nat) : Int))) ∧ True) ∧ ((0 : Int) ≤ 1 ∧ (1 : Int) < ((32 : Nat) : Int))) ∧ True) ∧ True) ∧ True) ∧ True) ∧ True) ∧ True) ∧ True) ∧ True) ∧ True) ∧ ((0 : Int) ≤ 2 ∧ (2 : Int) < ((32 : Nat) : Int))) ∧ True) ∧ ((0 : Int) ≤ 2 ∧ (2 : Int) < ((32 : Nat) : Int))) ∧ True) ∧ True) ∧ True) ∧ True) ∧ True) ∧ True) ∧ True) ∧ True) ∧ True) ∧ ((0 : Int) ≤ 3 ∧ (3 : Int) < ((32 : Nat) : Int))) ∧ True) ∧ ((0 : Int) ≤ 3 ∧ (3 : Int) < ((32 : Nat) : Int))) ∧ True) ∧ True) ∧ True) ∧ True) ∧ True) ∧ True) ∧ True) ∧ True) ∧ True) ∧ ((0 : Int) ≤ 4 ∧ (4 : Int) < ((32 : Nat) : Int))) ∧ True) ∧ ((0 : Int) ≤ 4 ∧ (4 : Int) < ((32 : Nat) : Int))) ∧ True) ∧ True) ∧ True) ∧ True) ∧ True) ∧ True) ∧ True) ∧ True) ∧ True) ∧ ((0 : Int) ≤ 5 ∧ (5 : Int) < ((32 : Nat) : Int))) ∧ True) ∧ ((0 : Int) ≤ 5 ∧ (5 : Int) < ((32 : Nat) : Int))) ∧ True) ∧ True) ∧ True) ∧ True) ∧ True) ∧ True) ∧ True) ∧ True) ∧ True) ∧ ((0 : Int) ≤ 6 ∧ (6 : Int) < ((32 : Nat) : Int))) ∧ True) ∧ ((0 : Int) ≤ 6 ∧ (6 : Int) < ((32 : Nat) : Int))) ∧ True) ∧ True) ∧ True) ∧ True) ∧ True) ∧ True) ∧ True) ∧ True) ∧ True) ∧ ((0 : Int) ≤ 7 ∧ (7 : Int) < ((32 : Nat) : Int))) ∧ True) ∧ ((0 : Int) ≤ 7 ∧ (7 : Int) < ((32 : Nat) : Int))) ∧ True) ∧ True) ∧ True) ∧ True) ∧ True) ∧ True) ∧ True) ∧ True) ∧ True) ∧ ((0 : Int) ≤ 8 ∧ (8 : Int) < ((32 : Nat) : Int))) ∧ True) ∧ ((0 : Int) ≤ 8 ∧ (8 : Int) < ((32 : Nat) : Int))) ∧ True) ∧ True) ∧ True) ∧ True) ∧ True) ∧ True) ∧ True) ∧ True) ∧ True) ∧ ((0 : Int) ≤ 9 ∧ (9 : Int) < ((32 : Nat) : Int))) ∧ True) ∧ ((0 : Int) ≤ 9 ∧ (9 : Int) < ((32 : Nat) : Int))) ∧ True) ∧ True) ∧ True) ∧ True) ∧ True) ∧ True) ∧ True) ∧ True) ∧ True) ∧ ((0 : Int) ≤ 10 ∧ (10 : Int) < ((32 : Nat) : Int))) ∧ True) ∧ ((0 : Int) ≤ 10 ∧ (10 : Int) < ((32 : Nat) : Int))) ∧ True) ∧ True) ∧ True) ∧ True) ∧ True) ∧ True) ∧ True) ∧ True) ∧ True) ∧ ((0 : Int) ≤ 11 ∧ (11 : Int) < ((32 : Nat) : Int))) ∧ True) ∧ ((0 : Int) ≤ 11 ∧ (11 : Int) < ((32 : Nat) : Int))) ∧ True) ∧ True) ∧ True) ∧ True) ∧ True) ∧ True) ∧ True) ∧ True) ∧ True) ∧ ((0 : Int) ≤ 12 ∧ (12 : Int) < ((32 : Nat) : Int))) ∧ True) ∧ ((0 : Int) ≤ 12 ∧ (12 : Int) < ((32 : Nat) : Int))) ∧ True) ∧ True) ∧ True) ∧ True) ∧ True) ∧ True) ∧ True) ∧ True) ∧ True) ∧ ((0 : Int) ≤ 13 ∧ (13 : Int) < ((32 : Nat) : Int))) ∧ True) ∧ ((0 : Int) ≤ 13 ∧ (13 : Int) < ((32 : Nat) : Int))) ∧ True) ∧ True) ∧ True) ∧ True) ∧ True) ∧ True) ∧ True) ∧ True) ∧ True) ∧ ((0 : Int) ≤ 14 ∧ (14 : Int) < ((32 : Nat) : Int))) ∧ True) ∧ ((0 : Int) ≤ 14 ∧ (14 : Int) < ((32 : Nat) : Int))) ∧ True) ∧ True) ∧ True) ∧ True) ∧ True) ∧ True) ∧ True) ∧ True) ∧ True) ∧ ((0 : Int) ≤ 15 ∧ (15 : Int) < ((32 : Nat) : Int))) ∧ True) ∧ ((0 : Int) ≤ 15 ∧ (15 : Int) < ((32 : Nat) : Int))) ∧ True) ∧ True) ∧ True) ∧ True) ∧ True) ∧ True) ∧ True) ∧ True) ∧ True) ∧ ((0 : Int) ≤ 16 ∧ (16 : Int) < ((32 : Nat) : Int))) ∧ True) ∧ ((0 : Int) ≤ 16 ∧ (16 : Int) < ((32 : Nat) : Int))) ∧ True) ∧ True) ∧ True) ∧ True) ∧ True) ∧ True) ∧ True) ∧ True) ∧ True) ∧ ((0 : Int) ≤ 17 ∧ (17 : Int) < ((32 : Nat) : Int))) ∧ True) ∧ ((0 : Int) ≤ 17 ∧ (17 : Int) < ((32 : Nat) : Int))) ∧ True) ∧ True) ∧ True) ∧ True) ∧ True) ∧ True) ∧ True) ∧ True) ∧ True) ∧ ((0 : Int) ≤ 18 ∧ (18 : Int) < ((32 : Nat) : Int))) ∧ True) ∧ ((0 : Int) ≤ 18 ∧ (18 : Int) < ((32 : Nat) : Int))) ∧ True) ∧ True) ∧ True) ∧ True) ∧ True) ∧ True) ∧ True) ∧ True) ∧ True) ∧ ((0 : Int) ≤ 19 ∧ (19 : Int) < ((32 : Nat) : Int))) ∧ True) ∧ ((0 : Int) ≤ 19 ∧ (19 : Int) < ((32 : Nat) : Int))) ∧ True) ∧ True) ∧ True) ∧ True) ∧ True) ∧ True) ∧ True) ∧ True) ∧ True) ∧ ((0 : Int) ≤ 20 ∧ (20 : Int) < ((32 : Nat) : Int))) ∧ True) ∧ ((0 : Int) ≤ 20 ∧ (20 : Int) < ((32 : Nat) : Int))) ∧ True) ∧ True) ∧ True) ∧ True) ∧ True) ∧ True) ∧ True) ∧ True) ∧ True) ∧ ((0 : Int) ≤ 21 ∧ (21 : Int) < ((32 : Nat) : Int))) ∧ True) ∧ ((0 : Int) ≤ 21 ∧ (21 : Int) < ((32 : Nat) : Int))) ∧ True) ∧ True) ∧ True) ∧ True) ∧ True) ∧ True) ∧ True) ∧ True) ∧ True) ∧ ((0 : Int) ≤ 22 ∧ (22 : Int) < ((32 : Nat) : Int))) ∧ True) ∧ ((0 : Int) ≤ 22 ∧ (22 : Int) < ((32 : Nat) : Int))) ∧ True) ∧ True) ∧ True) ∧ True) ∧ True) ∧ True) ∧ True) ∧ True) ∧ True) ∧ ((0 : Int) ≤ 23 ∧ (23 : Int) < ((32 : Nat) : Int))) ∧ True) ∧ ((0 : Int) ≤ 23 ∧ (23 : Int) < ((32 : Nat) : Int))) ∧ True) ∧ True) ∧ True) ∧ True) ∧ True) ∧ True) ∧ True) ∧ True) ∧ True) ∧ ((0 : Int) ≤ 24 ∧ (24 : Int) < ((32 : Nat) : Int))) ∧ True) ∧ ((0 : Int) ≤ 24 ∧ (24 : Int) < ((32 : Nat) : Int))) ∧ True) ∧ True) ∧ True) ∧ True) ∧ True) ∧ True) ∧ True) ∧ True) ∧ True) ∧ ((0 : Int) ≤ 25 ∧ (25 : Int) < ((32 : Nat) : Int))) ∧ True) ∧ ((0 : Int) ≤ 25 ∧ (25 : Int) < ((32 : Nat) : Int))) ∧ True) ∧ True) ∧ True) ∧ True) ∧ True) ∧ True) ∧ True) ∧ True) ∧ True) ∧ ((0 : Int) ≤ 26 ∧ (26 : Int) < ((32 : Nat) : Int))) ∧ True) ∧ ((0 : Int) ≤ 26 ∧ (26 : Int) < ((32 : Nat) : Int))) ∧ True) ∧ True) ∧ True) ∧ True) ∧ True) ∧ True) ∧ True) ∧ True) ∧ True) ∧ ((0 : Int) ≤ 27 ∧ (27 : Int) < ((32 : Nat) : Int))) ∧ True) ∧ ((0 : Int) ≤ 27 ∧ (27 : Int) < ((32 : Nat) : Int))) ∧ True) ∧ True) ∧ True) ∧ True) ∧ True) ∧ True) ∧ True) ∧ True) ∧ True) ∧ ((0 : Int) ≤ 28 ∧ (28 : Int) < ((32 : Nat) : Int))) ∧ True) ∧ ((0 : Int) ≤ 28 ∧ (28 : Int) < ((32 : Nat) : Int))) ∧ True) ∧ True) ∧ True) ∧ True) ∧ True) ∧ True) ∧ True) ∧ True) ∧ True) ∧ ((0 : Int) ≤ 29 ∧ (29 : Int) < ((32 : Nat) : Int))) ∧ True) ∧ ((0 : Int) ≤ 29 ∧ (29 : Int) < ((32 : Nat) : Int))) ∧ True) ∧ True) ∧ True) ∧ True) ∧ True) ∧ True) ∧ True) ∧ True) ∧ True) ∧ ((0 : Int) ≤ 30 ∧ (30 : Int) < ((32 : Nat) : Int))) ∧ True) ∧ ((0 : Int) ≤ 30 ∧ (30 : Int) < ((32 : Nat) : Int))) ∧ True) ∧ True) ∧ True) ∧ True) ∧ True) ∧ True) ∧ True) ∧ True) ∧ True) ∧ ((0 : Int) ≤ 31 ∧ (31 : Int) < ((32 : Nat) : Int))) ∧ True) ∧ ((0 : Int) ≤ 31 ∧ (31 : Int) < ((32 : Nat) : Int))) ∧ True) ∧ True) ∧ True) ∧ True) ∧ True) ∧ True) ∧ ((0 : Int) ≤ 31 ∧ (31 : Int) < ((32 : Nat) : Int))) ∧ True) ∧ ((128 : Int) ≠ 0)) ∧ ((0 : Int) ≤ 31 ∧ (31 : Int) < ((32 : Nat) : Int))) ∧ True) ∧ True) ∧ byD.is (lowV (fun j => byt n j))) ∧ True) ∧ True) ∧ True) ∧ ((nuC (rhA_v0 n)).all (fun v => v.oneCell') = true)) ∧ True) ∧ (IntKind.u64 = IntKind.u64 ∧ w64 1)) ∧ ((nuC 1).all (fun v => v.oneCell') = true)) ∧ True) ∧ ((nuC dN).all (fun v => v.oneCell') = true)) ∧ True) ∧ True) ∧ True) ∧ (nuD.is (nuC (rhA_v0 n)) ∧ nuD.is (nuC (rhA_v0 n)))) ∧ (nuD.is (nuC iNum) ∧ nuD.is (nuC (rhA_v1 n)))) ∧ ((nuC (rhA_v2 n)).all (fun v => v.oneCell') = true)) ∧ True) ∧ True) ∧ (nuD.is (nuC (rhA_v2 n)) ∧ nuD.is (nuC 1))) ∧ True) ∧ True) ∧ True) ∧ (nuD.is (nuC dN) ∧ nuD.is (nuC dN))) ∧ (nuD.is (nuC 1) ∧ nuD.is (nuC (rhA_v4 n)))) ∧ (nuD.is (nuC (rhA_v3 n)) ∧ nuD.is (nuC (rhA_v5 n)))) ∧ ((nuC (rhA_v6 n)).all (fun v => v.oneCell') = true)) ∧ True) ∧ nuD.is (nuC 1)) ∧ True) ∧ True) ∧ (nuD.is (nuC (rhA_v2 n)) ∧ nuD.is (nuC dN))) ∧ (nuD.is (nuC (-(nn (nuC 1)) % pr)) ∧ nuD.is (nuC (rhA_v7 n)))) ∧ True) ∧ True) ∧ (nuD.is (nuC (rhA_v2 n)) ∧ nuD.is (nuC dN))) ∧ (nuD.is (nuC (rhA_v8 n)) ∧ nuD.is (nuC (rhA_v9 n)))) ∧ ((nuC (rhA_v10 n)).all (fun v => v.oneCell') = true)) ∧ True) ∧ True) ∧ (nuD.is (nuC (rhA_v6 n)) ∧ nuD.is (nuC (rhA_v10 n)))) ∧ True) ∧ True) ∧ (True ∧ (quoB (nn (nuC (rhA_v6 n))) (nn (nuC (rhA_v10 n)))) = true)) ∧ ((nuC (rhA_v11 n)).all (fun v => v.oneCell') = true)) ∧ True) ∧ True) ∧ nuD.is (nuC 1)) ∧ ((nuC (-(nn (nuC 1)) % pr)).all (fun v => v.oneCell') = true)) ∧ True) ∧ True) ∧ True) ∧ True) ∧ (nuD.is (nuC dN) ∧ nuD.is (nuC 1))) ∧ ((nuC (rhA_v12 n)).all (fun v => v.oneCell') = true)) ∧ True) ∧ True) ∧ True) ∧ (nuD.is (nuC (rhA_v2 n)) ∧ nuD.is (nuC 1))) ∧ (nuD.is (nuC (-(nn (nuC 1)) % pr)) ∧ nuD.is (nuC (rhA_v13 n)))) ∧ True) ∧ True) ∧ (nuD.is (nuC (rhA_v12 n)) ∧ nuD.is (nuC (rhA_v12 n)))) ∧ (nuD.is (nuC (rhA_v14 n)) ∧ nuD.is (nuC (rhA_v15 n)))) ∧ True) ∧ (nuD.is (nuC (rhA_v16 n)) ∧ nuD.is (nuC (rhA_v10 n)))) ∧ ((nuC (rhA_v17 n)).all (fun v => v.oneCell') = true)) ∧ (IntKind.u64 = IntKind.u64 ∧ w64 2)) ∧ True) ∧ True) ∧ (nuD.is (nuC (rhA_v11 n)) ∧ nuD.is (nuC (rhA_v10 n)))) ∧ (nuD.is (nuC 2) ∧ nuD.is (nuC (rhA_v18 n)))) ∧ ((nuC (rhA_v19 n)).all (fun v => v.oneCell') = true)) ∧ True) ∧ True) ∧ (nuD.is (nuC (rhA_v17 n)) ∧ nuD.is (nuC mNum))) ∧ ((nuC (rhA_v20 n)).all (fun v => v.oneCell') = true)) ∧ True) ∧ True) ∧ True) ∧ (nuD.is (nuC (rhA_v11 n)) ∧ nuD.is (nuC (rhA_v11 n)))) ∧ (nuD.is (nuC 1) ∧ nuD.is (nuC (rhA_v21 n)))) ∧ ((nuC (rhA_v22 n)).all (fun v => v.oneCell') = true)) ∧ True) ∧ True) ∧ True) ∧ (nuD.is (nuC (rhA_v11 n)) ∧ nuD.is (nuC (rhA_v11 n)))) ∧ (nuD.is (nuC 1) ∧ nuD.is (nuC (rhA_v21 n)))) ∧ ((nuC (rhA_v23 n)).all (fun v => v.oneCell') = true)) ∧ True) ∧ True) ∧ (nuD.is (nuC (rhA_v19 n)) ∧ nuD.is (nuC (rhA_v23 n)))) ∧ True) ∧ True) ∧ (nuD.is (nuC (rhA_v22 n)) ∧ nuD.is (nuC (rhA_v20 n)))) ∧ True) ∧ True) ∧ (nuD.is (nuC (rhA_v20 n)) ∧ nuD.is (nuC (rhA_v23 n)))) ∧ True) ∧ ((rpC (⟨(rhA_v24 n), (rhA_v25 n), (rhA_v26 n)⟩ : P3)).all (fun v => v.oneCell') = true))) := by kernel_rfl
set_option maxRecDepth 100000 in
theorem rhA_1 (n : Int) : evG (yty.enf tab15 1) rhA_h Try.f67 [((b6C n), 22)] [.slice (some ⟨0, 0, none⟩) 32 64] [none, none, none, none, none, none, none, none, none, none, none, none, none, none, none, none, none, none, none, none, none, none, none, none, none, none, none, none, none, none, none, none, none, none, none, none, none, none, none, none, none, none, none, none, none, none, none, none, none, none, none, none, none, none, none, none, none, none, none, none, none, none, none, none, none, none, none, none, none, none, none, none, none, none, none, none, none, none, none, none, none, none, none, none, none, none, none, none, none, none, none, none, none, none, none, none, none, none, none, none, some (.bool false)] = some (.agg (rpC (⟨(rhA_v39 n), (rhA_v40 n), (rhA_v41 n)⟩ : P3)), ((((((((((((((((((((((((((((((((((((((((((((((((((((((((((((((((((((((((((((((((((((((((((((((((((((((((((((((((((((((((((((((((((((((((((((((((((((((((((((((((((((((((((((((((((((((((((((((((((((((((((((((((((((((((((((((((((((((((((((((((((((((((((((((((((((((((((((((((((((((((((((((((((((((((((((((((((((((((((((((((((((((((((((((((((((((((((((((((((((((((((((((((((((((((((((((((((((((((((((((((((((((((((((((((((((((((((((((((((((((((((((((((((((((((((((((((((((((((((((((((((((((((((((((((((((True ∧ True) ∧ True) ∧ True) ∧ True) ∧ True) ∧ True) ∧ ((0 : Int) ≤ 0 ∧ (0 : Int) < ((32 : Nat) : Int))) ∧ True) ∧ ((0 : Int) ≤ 0 ∧ (0 : Int) < ((32 : Nat) : Int))) ∧ True) ∧ True) ∧ True) ∧ True) ∧ True) ∧ True) ∧ True) ∧ True) ∧ True) ∧ ((0 : Int) ≤ 1 ∧ (1 : Int) < ((32 : Nat) : Int))) ∧ True) ∧ ((0 : Int) ≤ 1 ∧ (1 : Int) < ((32 : Nat) : Int))) ∧ True) ∧ True) ∧ True) ∧ True) ∧ True) ∧ True) ∧ True) ∧ True) ∧ True) ∧ ((0 : Int) ≤ 2 ∧ (2 : Int) < ((32 : Nat) : Int))) ∧ True) ∧ ((0 : Int) ≤ 2 ∧ (2 : Int) < ((32 : Nat) : Int))) ∧ True) ∧ True) ∧ True) ∧ True) ∧ True) ∧ True) ∧ True) ∧ True) ∧ True) ∧ ((0 : Int) ≤ 3 ∧ (3 : Int) < ((32 : Nat) : Int))) ∧ True) ∧ ((0 : Int) ≤ 3 ∧ (3 : Int) < ((32 : Nat) : Int))) ∧ True) ∧ True) ∧ True) ∧ True) ∧ True) ∧ True) ∧ True) ∧ True) ∧ True) ∧ ((0 : Int) ≤ 4 ∧ (4 : Int) < ((32 : Nat) : Int))) ∧ True) ∧ ((0 : Int) ≤ 4 ∧ (4 : Int) < ((32 : Nat) : Int))) ∧ True) ∧ True) ∧ True) ∧ True) ∧ True) ∧ True) ∧ True) ∧ True) ∧ True) ∧ ((0 : Int) ≤ 5 ∧ (5 : Int) < ((32 : Nat) : Int))) ∧ True) ∧ ((0 : Int) ≤ 5 ∧ (5 : Int) < ((32 : Nat) : Int))) ∧ True) ∧ True) ∧ True) ∧ True) ∧ True) ∧ True) ∧ True) ∧ True) ∧ True) ∧ ((0 : Int) ≤ 6 ∧ (6 : Int) < ((32 : Nat) : Int))) ∧ True) ∧ ((0 : Int) ≤ 6 ∧ (6 : Int) < ((32 : Nat) : Int))) ∧ True) ∧ True) ∧ True) ∧ True) ∧ True) ∧ True) ∧ True) ∧ True) ∧ True) ∧ ((0 : Int) ≤ 7 ∧ (7 : Int) < ((32 : Nat) : Int))) ∧ True) ∧ ((0 : Int) ≤ 7 ∧ (7 : Int) < ((32 : Nat) : Int))) ∧ True) ∧ True) ∧ True) ∧ True) ∧ True) ∧ True) ∧ True) ∧ True) ∧ True) ∧ ((0 : Int) ≤ 8 ∧ (8 : Int) < ((32 : Nat) : Int))) ∧ True) ∧ ((0 : Int) ≤ 8 ∧ (8 : Int) < ((32 : Nat) : Int))) ∧ True) ∧ True) ∧ True) ∧ True) ∧ True) ∧ True) ∧ True) ∧ True) ∧ True) ∧ ((0 : Int) ≤ 9 ∧ (9 : Int) < ((32 : Nat) : Int))) ∧ True) ∧ ((0 : Int) ≤ 9 ∧ (9 : Int) < ((32 : Nat) : Int))) ∧ True) ∧ True) ∧ True) ∧ True) ∧ True) ∧ True) ∧ True) ∧ True) ∧ True) ∧ ((0 : Int) ≤ 10 ∧ (10 : Int) < ((32 : Nat) : Int))) ∧ True) ∧ ((0 : Int) ≤ 10 ∧ (10 : Int) < ((32 : Nat) : Int))) ∧ True) ∧ True) ∧ True) ∧ True) ∧ True) ∧ True) ∧ True) ∧ True) ∧ True) ∧ ((0 : Int) ≤ 11 ∧ (11 : Int) < ((32 : Nat) : Int))) ∧ True) ∧ ((0 : Int) ≤ 11 ∧ (11 : Int) < ((32 : Nat) : Int))) ∧ True) ∧ True) ∧ True) ∧ True) ∧ True) ∧ True) ∧ True) ∧ True) ∧ True) ∧ ((0 : Int) ≤ 12 ∧ (12 : Int) < ((32 : Nat) : Int))) ∧ True) ∧ ((0 : Int) ≤ 12 ∧ (12 : Int) < ((32 : Nat) : Int))) ∧ True) ∧ True) ∧ True) ∧ True) ∧ True) ∧ True) ∧ True) ∧ True) ∧ True) ∧ ((0 : Int) ≤ 13 ∧ (13 : Int) < ((32 : Nat) : Int))) ∧ True) ∧ ((0 : Int) ≤ 13 ∧ (13 : Int) < ((32 : Nat) : Int))) ∧ True) ∧ True) ∧ True) ∧ True) ∧ True) ∧ True) ∧ True) ∧ True) ∧ True) ∧ ((0 : Int) ≤ 14 ∧ (14 : Int) < ((32 : Nat) : Int))) ∧ True) ∧ ((0 : Int) ≤ 14 ∧ (14 : Int) < ((32 : Nat) : Int))) ∧ True) ∧ True) ∧ True) ∧ True) ∧ True) ∧ True) ∧ True) ∧ True) ∧ True) ∧ ((0 : Int) ≤ 15 ∧ (15 : Int) < ((32 : Nat) : Int))) ∧ True) ∧ ((0 : Int) ≤ 15 ∧ (15 : Int) < ((32 : Nat) : Int))) ∧ True) ∧ True) ∧ True) ∧ True) ∧ True) ∧ True) ∧ True) ∧ True) ∧ True) ∧ ((0 : Int) ≤ 16 ∧ (16 : Int) < ((32 : Nat) : Int))) ∧ True) ∧ ((0 : Int) ≤ 16 ∧ (16 : Int) < ((32 : Nat) : Int))) ∧ True) ∧ True) ∧ True) ∧ True) ∧ True) ∧ True) ∧ True) ∧ True) ∧ True) ∧ ((0 : Int) ≤ 17 ∧ (17 : Int) < ((32 : Nat) : Int))) ∧ True) ∧ ((0 : Int) ≤ 17 ∧ (17 : Int) < ((32 : Nat) : Int))) ∧ True) ∧ True) ∧ True) ∧ True) ∧ True) ∧ True) ∧ True) ∧ True) ∧ True) ∧ ((0 : Int) ≤ 18 ∧ (18 : Int) < ((32 : Nat) : Int))) ∧ True) ∧ ((0 : Int) ≤ 18 ∧ (18 : Int) < ((32 : Nat) : Int))) ∧ True) ∧ True) ∧ True) ∧ True) ∧ True) ∧ True) ∧ True) ∧ True) ∧ True) ∧ ((0 : Int) ≤ 19 ∧ (19 : Int) < ((32 : Nat) : Int))) ∧ True) ∧ ((0 : Int) ≤ 19 ∧ (19 : Int) < ((32 : Nat) : Int))) ∧ True) ∧ True) ∧ True) ∧ True) ∧ True) ∧ True) ∧ True) ∧ True) ∧ True) ∧ ((0 : Int) ≤ 20 ∧ (20 : Int) < ((32 : Nat) : Int))) ∧ True) ∧ ((0 : Int) ≤ 20 ∧ (20 : Int) < ((32 : Nat) : Int))) ∧ True) ∧ True) ∧ True) ∧ True) ∧ True) ∧ True) ∧ True) ∧ True) ∧ True) ∧ ((0 : Int) ≤ 21 ∧ (21 : Int) < ((32 : Nat) : Int))) ∧ True) ∧ ((0 : Int) ≤ 21 ∧ (21 : Int) < ((32 : Nat) : Int))) ∧ True) ∧ True) ∧ True) ∧ True) ∧ True) ∧ True) ∧ True) ∧ True) ∧ True) ∧ ((0 : Int) ≤ 22 ∧ (22 : Int) < ((32 : Nat) : Int))) ∧ True) ∧ ((0 : Int) ≤ 22 ∧ (22 : Int) < ((32 : Nat) : Int))) ∧ True) ∧ True) ∧ True) ∧ True) ∧ True) ∧ True) ∧ True) ∧ True) ∧ True) ∧ ((0 : Int) ≤ 23 ∧ (23 : Int) < ((32 : Nat) : Int))) ∧ True) ∧ ((0 : Int) ≤ 23 ∧ (23 : Int) < ((32 : Nat) : Int))) ∧ True) ∧ True) ∧ True) ∧ True) ∧ True) ∧ True) ∧ True) ∧ True) ∧ True) ∧ ((0 : Int) ≤ 24 ∧ (24 : Int) < ((32 : Nat) : Int))) ∧ True) ∧ ((0 : Int) ≤ 24 ∧ (24 : Int) < ((32 : Nat) : Int))) ∧ True) ∧ True) ∧ True) ∧ True) ∧ True) ∧ True) ∧ True) ∧ True) ∧ True) ∧ ((0 : Int) ≤ 25 ∧ (25 : Int) < ((32 : Nat) : Int))) ∧ True) ∧ ((0 : Int) ≤ 25 ∧ (25 : Int) < ((32 : Nat) : Int))) ∧ True) ∧ True) ∧ True) ∧ True) ∧ True) ∧ True) ∧ True) ∧ True) ∧ True) ∧ ((0 : Int) ≤ 26 ∧ (26 : Int) < ((32 : Nat) : Int))) ∧ True) ∧ ((0 : Int) ≤ 26 ∧ (26 : Int) < ((32 : Nat) : Int))) ∧ True) ∧ True) ∧ True) ∧ True) ∧ True) ∧ True) ∧ True) ∧ True) ∧ True) ∧ ((0 : Int) ≤ 27 ∧ (27 : Int) < ((32 : Nat) : Int))) ∧ True) ∧ ((0 : Int) ≤ 27 ∧ (27 : Int) < ((32 : Nat) : Int))) ∧ True) ∧ True) ∧ True) ∧ True) ∧ True) ∧ True) ∧ True) ∧ True) ∧ True) ∧ ((0 : Int) ≤ 28 ∧ (28 : Int) < ((32 : Nat) : Int))) ∧ True) ∧ ((0 : Int) ≤ 28 ∧ (28 : Int) < ((32 : Nat) : Int))) ∧ True) ∧ True) ∧ True) ∧ True) ∧ True) ∧ True) ∧ True) ∧ True) ∧ True) ∧ ((0 : Int) ≤ 29 ∧ (29 : Int) < ((32 : Nat) : Int))) ∧ True) ∧ ((0 : Int) ≤ 29 ∧ (29 : Int) < ((32 : Nat) : Int))) ∧ True) ∧ True) ∧ True) ∧ True) ∧ True) ∧ True) ∧ True) ∧ True) ∧ True) ∧ ((0 : Int) ≤ 30 ∧ (30 : Int) < ((32 : Nat) : Int))) ∧ True) ∧ ((0 : Int) ≤ 30 ∧ (30 : Int) < ((32 : Nat) : Int))) ∧ True) ∧ True) ∧ True) ∧ True) ∧ True) ∧ True) ∧ True) ∧ True) ∧ True) ∧ ((0 : Int) ≤ 31 ∧ (31 : Int) < ((32 : Nat) : Int))) ∧ True) ∧ ((0 : Int) ≤ 31 ∧ (31 : Int) < ((32 : Nat) : Int))) ∧ True) ∧ True) ∧ True) ∧ True) ∧ True) ∧ True) ∧ ((0 : Int) ≤ 31 ∧ (31 : Int) < ((32 : Nat) : Int))) ∧ True) ∧ ((128 : Int) ≠ 0)) ∧ ((0 : Int) ≤ 31 ∧ (31 : Int) < ((32 : Nat) : Int))) ∧ True) ∧ True) ∧ byD.is (lowV (fun j => byt n j))) ∧ True) ∧ True) ∧ True) ∧ ((nuC (rhA_v0 n)).all (fun v => v.oneCell') = true)) ∧ True) ∧ (IntKind.u64 = IntKind.u64 ∧ w64 1)) ∧ ((nuC 1).all (fun v => v.oneCell') = true)) ∧ True) ∧ ((nuC dN).all (fun v => v.oneCell') = true)) ∧ True) ∧ True) ∧ True) ∧ (nuD.is (nuC (rhA_v0 n)) ∧ nuD.is (nuC (rhA_v0 n)))) ∧ (nuD.is (nuC iNum) ∧ nuD.is (nuC (rhA_v1 n)))) ∧ ((nuC (rhA_v2 n)).all (fun v => v.oneCell') = true)) ∧ True) ∧ True) ∧ (nuD.is (nuC (rhA_v2 n)) ∧ nuD.is (nuC 1))) ∧ True) ∧ True) ∧ True) ∧ (nuD.is (nuC dN) ∧ nuD.is (nuC dN))) ∧ (nuD.is (nuC 1) ∧ nuD.is (nuC (rhA_v4 n)))) ∧ (nuD.is (nuC (rhA_v3 n)) ∧ nuD.is (nuC (rhA_v5 n)))) ∧ ((nuC (rhA_v6 n)).all (fun v => v.oneCell') = true)) ∧ True) ∧ nuD.is (nuC 1)) ∧ True) ∧ True) ∧ (nuD.is (nuC (rhA_v2 n)) ∧ nuD.is (nuC dN))) ∧ (nuD.is (nuC (-(nn (nuC 1)) % pr)) ∧ nuD.is (nuC (rhA_v7 n)))) ∧ True) ∧ True) ∧ (nuD.is (nuC (rhA_v2 n)) ∧ nuD.is (nuC dN))) ∧ (nuD.is (nuC (rhA_v8 n)) ∧ nuD.is (nuC (rhA_v9 n)))) ∧ ((nuC (rhA_v10 n)).all (fun v => v.oneCell') = true)) ∧ True) ∧ True) ∧ (nuD.is (nuC (rhA_v6 n)) ∧ nuD.is (nuC (rhA_v10 n)))) ∧ True) ∧ True) ∧ (True ∧ (quoB (nn (nuC (rhA_v6 n))) (nn (nuC (rhA_v10 n)))) = false)) ∧ ((nuC (rhA_v11 n)).all (fun v => v.oneCell') = true)) ∧ True) ∧ True) ∧ nuD.is (nuC 1)) ∧ ((nuC (-(nn (nuC 1)) % pr)).all (fun v => v.oneCell') = true)) ∧ True) ∧ True) ∧ True) ∧ True) ∧ (nuD.is (nuC (rhA_v11 n)) ∧ nuD.is (nuC (rhA_v0 n)))) ∧ nuD.is (nuC (rhA_v27 n))) ∧ nuD.is (nuC (rhA_v28 n))) ∧ ((nuC (rhA_v29 n)).all (fun v => v.oneCell') = true)) ∧ True) ∧ ((nuC (rhA_v2 n)).all (fun v => v.oneCell') = true)) ∧ True) ∧ True) ∧ (nuD.is (nuC dN) ∧ nuD.is (nuC 1))) ∧ ((nuC (rhA_v12 n)).all (fun v => v.oneCell') = true)) ∧ True) ∧ True) ∧ True) ∧ (nuD.is (nuC (rhA_v2 n)) ∧ nuD.is (nuC 1))) ∧ (nuD.is (nuC (rhA_v2 n)) ∧ nuD.is (nuC (rhA_v13 n)))) ∧ True) ∧ True) ∧ (nuD.is (nuC (rhA_v12 n)) ∧ nuD.is (nuC (rhA_v12 n)))) ∧ (nuD.is (nuC (rhA_v30 n)) ∧ nuD.is (nuC (rhA_v15 n)))) ∧ True) ∧ (nuD.is (nuC (rhA_v31 n)) ∧ nuD.is (nuC (rhA_v10 n)))) ∧ ((nuC (rhA_v32 n)).all (fun v => v.oneCell') = true)) ∧ (IntKind.u64 = IntKind.u64 ∧ w64 2)) ∧ True) ∧ True) ∧ (nuD.is (nuC (rhA_v29 n)) ∧ nuD.is (nuC (rhA_v10 n)))) ∧ (nuD.is (nuC 2) ∧ nuD.is (nuC (rhA_v33 n)))) ∧ ((nuC (rhA_v34 n)).all (fun v => v.oneCell') = true)) ∧ True) ∧ True) ∧ (nuD.is (nuC (rhA_v32 n)) ∧ nuD.is (nuC mNum))) ∧ ((nuC (rhA_v35 n)).all (fun v => v.oneCell') = true)) ∧ True) ∧ True) ∧ True) ∧ (nuD.is (nuC (rhA_v29 n)) ∧ nuD.is (nuC (rhA_v29 n)))) ∧ (nuD.is (nuC 1) ∧ nuD.is (nuC (rhA_v36 n)))) ∧ ((nuC (rhA_v37 n)).all (fun v => v.oneCell') = true)) ∧ True) ∧ True) ∧ True) ∧ (nuD.is (nuC (rhA_v29 n)) ∧ nuD.is (nuC (rhA_v29 n)))) ∧ (nuD.is (nuC 1) ∧ nuD.is (nuC (rhA_v36 n)))) ∧ ((nuC (rhA_v38 n)).all (fun v => v.oneCell') = true)) ∧ True) ∧ True) ∧ (nuD.is (nuC (rhA_v34 n)) ∧ nuD.is (nuC (rhA_v38 n)))) ∧ True) ∧ True) ∧ (nuD.is (nuC (rhA_v37 n)) ∧ nuD.is (nuC (rhA_v35 n)))) ∧ True) ∧ True) ∧ (nuD.is (nuC (rhA_v35 n)) ∧ nuD.is (nuC (rhA_v38 n)))) ∧ True) ∧ ((rpC (⟨(rhA_v39 n), (rhA_v40 n), (rhA_v41 n)⟩ : P3)).all (fun v => v.oneCell') = true))) := by kernel_rfl
def rhA_F (n : Int) : Value := cond (quoB (nn (nuC (rhA_v6 n))) (nn (nuC (rhA_v10 n)))) (.agg (rpC (⟨(rhA_v24 n), (rhA_v25 n), (rhA_v26 n)⟩ : P3))) (.agg (rpC (⟨(rhA_v39 n), (rhA_v40 n), (rhA_v41 n)⟩ : P3)))
set_option maxRecDepth 100000 in
set_option maxHeartbeats 4000000 in
theorem rhA_p (n : Int) (hn : Ok6 n) : Reads Try.prog 67 [((b6C n), 22)] [.slice (some ⟨0, 0, none⟩) 32 64] (rhA_F n) := by
  unfold rhA_F
  cases h34 : (quoB (nn (nuC (rhA_v6 n))) (nn (nuC (rhA_v10 n))))
  · skip
    exact reads_of (n := 1) mixed Try.func67 ⟨rfl, by decide⟩ _ (rhA_1 n) rfl ⟨⟨⟨⟨⟨⟨⟨⟨⟨⟨⟨⟨⟨⟨⟨⟨⟨⟨⟨⟨⟨⟨⟨⟨⟨⟨⟨⟨⟨⟨⟨⟨⟨⟨⟨⟨⟨⟨⟨⟨⟨⟨⟨⟨⟨⟨⟨⟨⟨⟨⟨⟨⟨⟨⟨⟨⟨⟨⟨⟨⟨⟨⟨⟨⟨⟨⟨⟨⟨⟨⟨⟨⟨⟨⟨⟨⟨⟨⟨⟨⟨⟨⟨⟨⟨⟨⟨⟨⟨⟨⟨⟨⟨⟨⟨⟨⟨⟨⟨⟨⟨⟨⟨⟨⟨⟨⟨⟨⟨⟨⟨⟨⟨⟨⟨⟨⟨⟨⟨⟨⟨⟨⟨⟨⟨⟨⟨⟨⟨⟨⟨⟨⟨⟨⟨⟨⟨⟨⟨⟨⟨⟨⟨⟨⟨⟨⟨⟨⟨⟨⟨⟨⟨⟨⟨⟨⟨⟨⟨⟨⟨⟨⟨⟨⟨⟨⟨⟨⟨⟨⟨⟨⟨⟨⟨⟨⟨⟨⟨⟨⟨⟨⟨⟨⟨⟨⟨⟨⟨⟨⟨⟨⟨⟨⟨⟨⟨⟨⟨⟨⟨⟨⟨⟨⟨⟨⟨⟨⟨⟨⟨⟨⟨⟨⟨⟨⟨⟨⟨⟨⟨⟨⟨⟨⟨⟨⟨⟨⟨⟨⟨⟨⟨⟨⟨⟨⟨⟨⟨⟨⟨⟨⟨⟨⟨⟨⟨⟨⟨⟨⟨⟨⟨⟨⟨⟨⟨⟨⟨⟨⟨⟨⟨⟨⟨⟨⟨⟨⟨⟨⟨⟨⟨⟨⟨⟨⟨⟨⟨⟨⟨⟨⟨⟨⟨⟨⟨⟨⟨⟨⟨⟨⟨⟨⟨⟨⟨⟨⟨⟨⟨⟨⟨⟨⟨⟨⟨⟨⟨⟨⟨⟨⟨⟨⟨⟨⟨⟨⟨⟨⟨⟨⟨⟨⟨⟨⟨⟨⟨⟨⟨⟨⟨⟨⟨⟨⟨⟨⟨⟨⟨⟨⟨⟨⟨⟨⟨⟨⟨⟨⟨⟨⟨⟨⟨⟨⟨⟨⟨⟨⟨⟨⟨⟨⟨⟨⟨⟨⟨⟨⟨⟨⟨⟨⟨⟨⟨⟨⟨⟨⟨⟨⟨⟨⟨⟨⟨⟨⟨⟨⟨⟨⟨⟨⟨⟨⟨⟨⟨⟨⟨⟨⟨⟨⟨⟨⟨⟨⟨⟨⟨⟨⟨⟨⟨⟨⟨⟨⟨⟨⟨⟨⟨⟨⟨⟨⟨⟨⟨⟨⟨⟨⟨⟨⟨⟨⟨⟨⟨⟨⟨⟨⟨⟨⟨⟨⟨⟨⟨⟨⟨⟨⟨⟨⟨⟨⟨⟨⟨⟨⟨⟨⟨⟨⟨⟨⟨⟨⟨⟨⟨⟨⟨⟨⟨⟨⟨⟨⟨⟨⟨⟨⟨⟨⟨⟨⟨⟨⟨⟨⟨⟨⟨⟨⟨⟨⟨⟨⟨⟨trivial, trivial⟩, trivial⟩, trivial⟩, trivial⟩, trivial⟩, trivial⟩, ⟨by decide, by decide⟩⟩, trivial⟩, ⟨by decide, by decide⟩⟩, trivial⟩, trivial⟩, trivial⟩, trivial⟩, trivial⟩, trivial⟩, trivial⟩, trivial⟩, trivial⟩, ⟨by decide, by decide⟩⟩, trivial⟩, ⟨by decide, by decide⟩⟩, trivial⟩, trivial⟩, trivial⟩, trivial⟩, trivial⟩, trivial⟩, trivial⟩, trivial⟩, trivial⟩, ⟨by decide, by decide⟩⟩, trivial⟩, ⟨by decide, by decide⟩⟩, trivial⟩, trivial⟩, trivial⟩, trivial⟩, trivial⟩, trivial⟩, trivial⟩, trivial⟩, trivial⟩, ⟨by decide, by decide⟩⟩, trivial⟩, ⟨by decide, by decide⟩⟩, trivial⟩, trivial⟩, trivial⟩, trivial⟩, trivial⟩, trivial⟩, trivial⟩, trivial⟩, trivial⟩, ⟨by decide, by decide⟩⟩, trivial⟩, ⟨by decide, by decide⟩⟩, trivial⟩, trivial⟩, trivial⟩, trivial⟩, trivial⟩, trivial⟩, trivial⟩, trivial⟩, trivial⟩, ⟨by decide, by decide⟩⟩, trivial⟩, ⟨by decide, by decide⟩⟩, trivial⟩, trivial⟩, trivial⟩, trivial⟩, trivial⟩, trivial⟩, trivial⟩, trivial⟩, trivial⟩, ⟨by decide, by decide⟩⟩, trivial⟩, ⟨by decide, by decide⟩⟩, trivial⟩, trivial⟩, trivial⟩, trivial⟩, trivial⟩, trivial⟩, trivial⟩, trivial⟩, trivial⟩, ⟨by decide, by decide⟩⟩, trivial⟩, ⟨by decide, by decide⟩⟩, trivial⟩, trivial⟩, trivial⟩, trivial⟩, trivial⟩, trivial⟩, trivial⟩, trivial⟩, trivial⟩, ⟨by decide, by decide⟩⟩, trivial⟩, ⟨by decide, by decide⟩⟩, trivial⟩, trivial⟩, trivial⟩, trivial⟩, trivial⟩, trivial⟩, trivial⟩, trivial⟩, trivial⟩, ⟨by decide, by decide⟩⟩, trivial⟩, ⟨by decide, by decide⟩⟩, trivial⟩, trivial⟩, trivial⟩, trivial⟩, trivial⟩, trivial⟩, trivial⟩, trivial⟩, trivial⟩, ⟨by decide, by decide⟩⟩, trivial⟩, ⟨by decide, by decide⟩⟩, trivial⟩, trivial⟩, trivial⟩, trivial⟩, trivial⟩, trivial⟩, trivial⟩, trivial⟩, trivial⟩, ⟨by decide, by decide⟩⟩, trivial⟩, ⟨by decide, by decide⟩⟩, trivial⟩, trivial⟩, trivial⟩, trivial⟩, trivial⟩, trivial⟩, trivial⟩, trivial⟩, trivial⟩, ⟨by decide, by decide⟩⟩, trivial⟩, ⟨by decide, by decide⟩⟩, trivial⟩, trivial⟩, trivial⟩, trivial⟩, trivial⟩, trivial⟩, trivial⟩, trivial⟩, trivial⟩, ⟨by decide, by decide⟩⟩, trivial⟩, ⟨by decide, by decide⟩⟩, trivial⟩, trivial⟩, trivial⟩, trivial⟩, trivial⟩, trivial⟩, trivial⟩, trivial⟩, trivial⟩, ⟨by decide, by decide⟩⟩, trivial⟩, ⟨by decide, by decide⟩⟩, trivial⟩, trivial⟩, trivial⟩, trivial⟩, trivial⟩, trivial⟩, trivial⟩, trivial⟩, trivial⟩, ⟨by decide, by decide⟩⟩, trivial⟩, ⟨by decide, by decide⟩⟩, trivial⟩, trivial⟩, trivial⟩, trivial⟩, trivial⟩, trivial⟩, trivial⟩, trivial⟩, trivial⟩, ⟨by decide, by decide⟩⟩, trivial⟩, ⟨by decide, by decide⟩⟩, trivial⟩, trivial⟩, trivial⟩, trivial⟩, trivial⟩, trivial⟩, trivial⟩, trivial⟩, trivial⟩, ⟨by decide, by decide⟩⟩, trivial⟩, ⟨by decide, by decide⟩⟩, trivial⟩, trivial⟩, trivial⟩, trivial⟩, trivial⟩, trivial⟩, trivial⟩, trivial⟩, trivial⟩, ⟨by decide, by decide⟩⟩, trivial⟩, ⟨by decide, by decide⟩⟩, trivial⟩, trivial⟩, trivial⟩, trivial⟩, trivial⟩, trivial⟩, trivial⟩, trivial⟩, trivial⟩, ⟨by decide, by decide⟩⟩, trivial⟩, ⟨by decide, by decide⟩⟩, trivial⟩, trivial⟩, trivial⟩, trivial⟩, trivial⟩, trivial⟩, trivial⟩, trivial⟩, trivial⟩, ⟨by decide, by decide⟩⟩, trivial⟩, ⟨by decide, by decide⟩⟩, trivial⟩, trivial⟩, trivial⟩, trivial⟩, trivial⟩, trivial⟩, trivial⟩, trivial⟩, trivial⟩, ⟨by decide, by decide⟩⟩, trivial⟩, ⟨by decide, by decide⟩⟩, trivial⟩, trivial⟩, trivial⟩, trivial⟩, trivial⟩, trivial⟩, trivial⟩, trivial⟩, trivial⟩, ⟨by decide, by decide⟩⟩, trivial⟩, ⟨by decide, by decide⟩⟩, trivial⟩, trivial⟩, trivial⟩, trivial⟩, trivial⟩, trivial⟩, trivial⟩, trivial⟩, trivial⟩, ⟨by decide, by decide⟩⟩, trivial⟩, ⟨by decide, by decide⟩⟩, trivial⟩, trivial⟩, trivial⟩, trivial⟩, trivial⟩, trivial⟩, trivial⟩, trivial⟩, trivial⟩, ⟨by decide, by decide⟩⟩, trivial⟩, ⟨by decide, by decide⟩⟩, trivial⟩, trivial⟩, trivial⟩, trivial⟩, trivial⟩, trivial⟩, trivial⟩, trivial⟩, trivial⟩, ⟨by decide, by decide⟩⟩, trivial⟩, ⟨by decide, by decide⟩⟩, trivial⟩, trivial⟩, trivial⟩, trivial⟩, trivial⟩, trivial⟩, trivial⟩, trivial⟩, trivial⟩, ⟨by decide, by decide⟩⟩, trivial⟩, ⟨by decide, by decide⟩⟩, trivial⟩, trivial⟩, trivial⟩, trivial⟩, trivial⟩, trivial⟩, trivial⟩, trivial⟩, trivial⟩, ⟨by decide, by decide⟩⟩, trivial⟩, ⟨by decide, by decide⟩⟩, trivial⟩, trivial⟩, trivial⟩, trivial⟩, trivial⟩, trivial⟩, trivial⟩, trivial⟩, trivial⟩, ⟨by decide, by decide⟩⟩, trivial⟩, ⟨by decide, by decide⟩⟩, trivial⟩, trivial⟩, trivial⟩, trivial⟩, trivial⟩, trivial⟩, trivial⟩, trivial⟩, trivial⟩, ⟨by decide, by decide⟩⟩, trivial⟩, ⟨by decide, by decide⟩⟩, trivial⟩, trivial⟩, trivial⟩, trivial⟩, trivial⟩, trivial⟩, trivial⟩, trivial⟩, trivial⟩, ⟨by decide, by decide⟩⟩, trivial⟩, ⟨by decide, by decide⟩⟩, trivial⟩, trivial⟩, trivial⟩, trivial⟩, trivial⟩, trivial⟩, trivial⟩, trivial⟩, trivial⟩, ⟨by decide, by decide⟩⟩, trivial⟩, ⟨by decide, by decide⟩⟩, trivial⟩, trivial⟩, trivial⟩, trivial⟩, trivial⟩, trivial⟩, ⟨by decide, by decide⟩⟩, trivial⟩, (by decide)⟩, ⟨by decide, by decide⟩⟩, trivial⟩, trivial⟩, (is_lowV (fun j => byt_bd n j))⟩, trivial⟩, trivial⟩, trivial⟩, one_nu _⟩, trivial⟩, ⟨rfl, ⟨by decide, by decide⟩⟩⟩, one_nu _⟩, trivial⟩, one_nu _⟩, trivial⟩, trivial⟩, trivial⟩, ⟨(nuD.is_enc (mod_bd _)), (nuD.is_enc (mod_bd _))⟩⟩, ⟨(nuD.is_enc (bd_iNum)), (nuD.is_enc (mod_bd _))⟩⟩, one_nu _⟩, trivial⟩, trivial⟩, ⟨(nuD.is_enc (mod_bd _)), (nuD.is_enc ⟨by decide, by decide⟩)⟩⟩, trivial⟩, trivial⟩, trivial⟩, ⟨(nuD.is_enc (bd_d)), (nuD.is_enc (bd_d))⟩⟩, ⟨(nuD.is_enc ⟨by decide, by decide⟩), (nuD.is_enc (mod_bd _))⟩⟩, ⟨(nuD.is_enc (mod_bd _)), (nuD.is_enc (mod_bd _))⟩⟩, one_nu _⟩, trivial⟩, (nuD.is_enc ⟨by decide, by decide⟩)⟩, trivial⟩, trivial⟩, ⟨(nuD.is_enc (mod_bd _)), (nuD.is_enc (bd_d))⟩⟩, ⟨(nuD.is_enc (mod_bd _)), (nuD.is_enc (mod_bd _))⟩⟩, trivial⟩, trivial⟩, ⟨(nuD.is_enc (mod_bd _)), (nuD.is_enc (bd_d))⟩⟩, ⟨(nuD.is_enc (mod_bd _)), (nuD.is_enc (mod_bd _))⟩⟩, one_nu _⟩, trivial⟩, trivial⟩, ⟨(nuD.is_enc (mod_bd _)), (nuD.is_enc (mod_bd _))⟩⟩, trivial⟩, trivial⟩, ⟨trivial, h34⟩⟩, one_nu _⟩, trivial⟩, trivial⟩, (nuD.is_enc ⟨by decide, by decide⟩)⟩, one_nu _⟩, trivial⟩, trivial⟩, trivial⟩, trivial⟩, ⟨(nuD.is_enc (bd_quoV _ _)), (nuD.is_enc (mod_bd _))⟩⟩, (nuD.is_enc (mod_bd _))⟩, (nuD.is_enc (bd_absR _ (bd_nn (mod_bd _))))⟩, one_nu _⟩, trivial⟩, one_nu _⟩, trivial⟩, trivial⟩, ⟨(nuD.is_enc (bd_d)), (nuD.is_enc ⟨by decide, by decide⟩)⟩⟩, one_nu _⟩, trivial⟩, trivial⟩, trivial⟩, ⟨(nuD.is_enc (mod_bd _)), (nuD.is_enc ⟨by decide, by decide⟩)⟩⟩, ⟨(nuD.is_enc (mod_bd _)), (nuD.is_enc (mod_bd _))⟩⟩, trivial⟩, trivial⟩, ⟨(nuD.is_enc (mod_bd _)), (nuD.is_enc (mod_bd _))⟩⟩, ⟨(nuD.is_enc (mod_bd _)), (nuD.is_enc (mod_bd _))⟩⟩, trivial⟩, ⟨(nuD.is_enc (mod_bd _)), (nuD.is_enc (mod_bd _))⟩⟩, one_nu _⟩, ⟨rfl, ⟨by decide, by decide⟩⟩⟩, trivial⟩, trivial⟩, ⟨(nuD.is_enc (mod_bd _)), (nuD.is_enc (mod_bd _))⟩⟩, ⟨(nuD.is_enc ⟨by decide, by decide⟩), (nuD.is_enc (mod_bd _))⟩⟩, one_nu _⟩, trivial⟩, trivial⟩, ⟨(nuD.is_enc (mod_bd _)), (nuD.is_enc (bd_mNum))⟩⟩, one_nu _⟩, trivial⟩, trivial⟩, trivial⟩, ⟨(nuD.is_enc (mod_bd _)), (nuD.is_enc (mod_bd _))⟩⟩, ⟨(nuD.is_enc ⟨by decide, by decide⟩), (nuD.is_enc (mod_bd _))⟩⟩, one_nu _⟩, trivial⟩, trivial⟩, trivial⟩, ⟨(nuD.is_enc (mod_bd _)), (nuD.is_enc (mod_bd _))⟩⟩, ⟨(nuD.is_enc ⟨by decide, by decide⟩), (nuD.is_enc (mod_bd _))⟩⟩, one_nu _⟩, trivial⟩, trivial⟩, ⟨(nuD.is_enc (mod_bd _)), (nuD.is_enc (mod_bd _))⟩⟩, trivial⟩, trivial⟩, ⟨(nuD.is_enc (mod_bd _)), (nuD.is_enc (mod_bd _))⟩⟩, trivial⟩, trivial⟩, ⟨(nuD.is_enc (mod_bd _)), (nuD.is_enc (mod_bd _))⟩⟩, trivial⟩, rpC_one _⟩
  · skip
    exact reads_of (n := 1) mixed Try.func67 ⟨rfl, by decide⟩ _ (rhA_0 n) rfl ⟨⟨⟨⟨⟨⟨⟨⟨⟨⟨⟨⟨⟨⟨⟨⟨⟨⟨⟨⟨⟨⟨⟨⟨⟨⟨⟨⟨⟨⟨⟨⟨⟨⟨⟨⟨⟨⟨⟨⟨⟨⟨⟨⟨⟨⟨⟨⟨⟨⟨⟨⟨⟨⟨⟨⟨⟨⟨⟨⟨⟨⟨⟨⟨⟨⟨⟨⟨⟨⟨⟨⟨⟨⟨⟨⟨⟨⟨⟨⟨⟨⟨⟨⟨⟨⟨⟨⟨⟨⟨⟨⟨⟨⟨⟨⟨⟨⟨⟨⟨⟨⟨⟨⟨⟨⟨⟨⟨⟨⟨⟨⟨⟨⟨⟨⟨⟨⟨⟨⟨⟨⟨⟨⟨⟨⟨⟨⟨⟨⟨⟨⟨⟨⟨⟨⟨⟨⟨⟨⟨⟨⟨⟨⟨⟨⟨⟨⟨⟨⟨⟨⟨⟨⟨⟨⟨⟨⟨⟨⟨⟨⟨⟨⟨⟨⟨⟨⟨⟨⟨⟨⟨⟨⟨⟨⟨⟨⟨⟨⟨⟨⟨⟨⟨⟨⟨⟨⟨⟨⟨⟨⟨⟨⟨⟨⟨⟨⟨⟨⟨⟨⟨⟨⟨⟨⟨⟨⟨⟨⟨⟨⟨⟨⟨⟨⟨⟨⟨⟨⟨⟨⟨⟨⟨⟨⟨⟨⟨⟨⟨⟨⟨⟨⟨⟨⟨⟨⟨⟨⟨⟨⟨⟨⟨⟨⟨⟨⟨⟨⟨⟨⟨⟨⟨⟨⟨⟨⟨⟨⟨⟨⟨⟨⟨⟨⟨⟨⟨⟨⟨⟨⟨⟨⟨⟨⟨⟨⟨⟨⟨⟨⟨⟨⟨⟨⟨⟨⟨⟨⟨⟨⟨⟨⟨⟨⟨⟨⟨⟨⟨⟨⟨⟨⟨⟨⟨⟨⟨⟨⟨⟨⟨⟨⟨⟨⟨⟨⟨⟨⟨⟨⟨⟨⟨⟨⟨⟨⟨⟨⟨⟨⟨⟨⟨⟨⟨⟨⟨⟨⟨⟨⟨⟨⟨⟨⟨⟨⟨⟨⟨⟨⟨⟨⟨⟨⟨⟨⟨⟨⟨⟨⟨⟨⟨⟨⟨⟨⟨⟨⟨⟨⟨⟨⟨⟨⟨⟨⟨⟨⟨⟨⟨⟨⟨⟨⟨⟨⟨⟨⟨⟨⟨⟨⟨⟨⟨⟨⟨⟨⟨⟨⟨⟨⟨⟨⟨⟨⟨⟨⟨⟨⟨⟨⟨⟨⟨⟨⟨⟨⟨⟨⟨⟨⟨⟨⟨⟨⟨⟨⟨⟨⟨⟨⟨⟨⟨⟨⟨⟨⟨⟨⟨⟨⟨⟨⟨⟨⟨⟨⟨⟨⟨⟨⟨⟨⟨⟨⟨⟨⟨⟨⟨⟨⟨⟨⟨⟨⟨⟨⟨⟨⟨⟨⟨⟨⟨⟨⟨⟨⟨⟨⟨⟨⟨⟨⟨⟨⟨⟨⟨⟨⟨trivial, trivial⟩, trivial⟩, trivial⟩, trivial⟩, trivial⟩, trivial⟩, ⟨by decide, by decide⟩⟩, trivial⟩, ⟨by decide, by decide⟩⟩, trivial⟩, trivial⟩, trivial⟩, trivial⟩, trivial⟩, trivial⟩, trivial⟩, trivial⟩, trivial⟩, ⟨by decide, by decide⟩⟩, trivial⟩, ⟨by decide, by decide⟩⟩, trivial⟩, trivial⟩, trivial⟩, trivial⟩, trivial⟩, trivial⟩, trivial⟩, trivial⟩, trivial⟩, ⟨by decide, by decide⟩⟩, trivial⟩, ⟨by decide, by decide⟩⟩, trivial⟩, trivial⟩, trivial⟩, trivial⟩, trivial⟩, trivial⟩, trivial⟩, trivial⟩, trivial⟩, ⟨by decide, by decide⟩⟩, trivial⟩, ⟨by decide, by decide⟩⟩, trivial⟩, trivial⟩, trivial⟩, trivial⟩, trivial⟩, trivial⟩, trivial⟩, trivial⟩, trivial⟩, ⟨by decide, by decide⟩⟩, trivial⟩, ⟨by decide, by decide⟩⟩, trivial⟩, trivial⟩, trivial⟩, trivial⟩, trivial⟩, trivial⟩, trivial⟩, trivial⟩, trivial⟩, ⟨by decide, by decide⟩⟩, trivial⟩, ⟨by decide, by decide⟩⟩, trivial⟩, trivial⟩, trivial⟩, trivial⟩, trivial⟩, trivial⟩, trivial⟩, trivial⟩, trivial⟩, ⟨by decide, by decide⟩⟩, trivial⟩, ⟨by decide, by decide⟩⟩, trivial⟩, trivial⟩, trivial⟩, trivial⟩, trivial⟩, trivial⟩, trivial⟩, trivial⟩, trivial⟩, ⟨by decide, by decide⟩⟩, trivial⟩, ⟨by decide, by decide⟩⟩, trivial⟩, trivial⟩, trivial⟩, trivial⟩, trivial⟩, trivial⟩, trivial⟩, trivial⟩, trivial⟩, ⟨by decide, by decide⟩⟩, trivial⟩, ⟨by decide, by decide⟩⟩, trivial⟩, trivial⟩, trivial⟩, trivial⟩, trivial⟩, trivial⟩, trivial⟩, trivial⟩, trivial⟩, ⟨by decide, by decide⟩⟩, trivial⟩, ⟨by decide, by decide⟩⟩, trivial⟩, trivial⟩, trivial⟩, trivial⟩, trivial⟩, trivial⟩, trivial⟩, trivial⟩, trivial⟩, ⟨by decide, by decide⟩⟩, trivial⟩, ⟨by decide, by decide⟩⟩, trivial⟩, trivial⟩, trivial⟩, trivial⟩, trivial⟩, trivial⟩, trivial⟩, trivial⟩, trivial⟩, ⟨by decide, by decide⟩⟩, trivial⟩, ⟨by decide, by decide⟩⟩, trivial⟩, trivial⟩, trivial⟩, trivial⟩, trivial⟩, trivial⟩, trivial⟩, trivial⟩, trivial⟩, ⟨by decide, by decide⟩⟩, trivial⟩, ⟨by decide, by decide⟩⟩, trivial⟩, trivial⟩, trivial⟩, trivial⟩, trivial⟩, trivial⟩, trivial⟩, trivial⟩, trivial⟩, ⟨by decide, by decide⟩⟩, trivial⟩, ⟨by decide, by decide⟩⟩, trivial⟩, trivial⟩, trivial⟩, trivial⟩, trivial⟩, trivial⟩, trivial⟩, trivial⟩, trivial⟩, ⟨by decide, by decide⟩⟩, trivial⟩, ⟨by decide, by decide⟩⟩, trivial⟩, trivial⟩, trivial⟩, trivial⟩, trivial⟩, trivial⟩, trivial⟩, trivial⟩, trivial⟩, ⟨by decide, by decide⟩⟩, trivial⟩, ⟨by decide, by decide⟩⟩, trivial⟩, trivial⟩, trivial⟩, trivial⟩, trivial⟩, trivial⟩, trivial⟩, trivial⟩, trivial⟩, ⟨by decide, by decide⟩⟩, trivial⟩, ⟨by decide, by decide⟩⟩, trivial⟩, trivial⟩, trivial⟩, trivial⟩, trivial⟩, trivial⟩, trivial⟩, trivial⟩, trivial⟩, ⟨by decide, by decide⟩⟩, trivial⟩, ⟨by decide, by decide⟩⟩, trivial⟩, trivial⟩, trivial⟩, trivial⟩, trivial⟩, trivial⟩, trivial⟩, trivial⟩, trivial⟩, ⟨by decide, by decide⟩⟩, trivial⟩, ⟨by decide, by decide⟩⟩, trivial⟩, trivial⟩, trivial⟩, trivial⟩, trivial⟩, trivial⟩, trivial⟩, trivial⟩, trivial⟩, ⟨by decide, by decide⟩⟩, trivial⟩, ⟨by decide, by decide⟩⟩, trivial⟩, trivial⟩, trivial⟩, trivial⟩, trivial⟩, trivial⟩, trivial⟩, trivial⟩, trivial⟩, ⟨by decide, by decide⟩⟩, trivial⟩, ⟨by decide, by decide⟩⟩, trivial⟩, trivial⟩, trivial⟩, trivial⟩, trivial⟩, trivial⟩, trivial⟩, trivial⟩, trivial⟩, ⟨by decide, by decide⟩⟩, trivial⟩, ⟨by decide, by decide⟩⟩, trivial⟩, trivial⟩, trivial⟩, trivial⟩, trivial⟩, trivial⟩, trivial⟩, trivial⟩, trivial⟩, ⟨by decide, by decide⟩⟩, trivial⟩, ⟨by decide, by decide⟩⟩, trivial⟩, trivial⟩, trivial⟩, trivial⟩, trivial⟩, trivial⟩, trivial⟩, trivial⟩, trivial⟩, ⟨by decide, by decide⟩⟩, trivial⟩, ⟨by decide, by decide⟩⟩, trivial⟩, trivial⟩, trivial⟩, trivial⟩, trivial⟩, trivial⟩, trivial⟩, trivial⟩, trivial⟩, ⟨by decide, by decide⟩⟩, trivial⟩, ⟨by decide, by decide⟩⟩, trivial⟩, trivial⟩, trivial⟩, trivial⟩, trivial⟩, trivial⟩, trivial⟩, trivial⟩, trivial⟩, ⟨by decide, by decide⟩⟩, trivial⟩, ⟨by decide, by decide⟩⟩, trivial⟩, trivial⟩, trivial⟩, trivial⟩, trivial⟩, trivial⟩, trivial⟩, trivial⟩, trivial⟩, ⟨by decide, by decide⟩⟩, trivial⟩, ⟨by decide, by decide⟩⟩, trivial⟩, trivial⟩, trivial⟩, trivial⟩, trivial⟩, trivial⟩, trivial⟩, trivial⟩, trivial⟩, ⟨by decide, by decide⟩⟩, trivial⟩, ⟨by decide, by decide⟩⟩, trivial⟩, trivial⟩, trivial⟩, trivial⟩, trivial⟩, trivial⟩, trivial⟩, trivial⟩, trivial⟩, ⟨by decide, by decide⟩⟩, trivial⟩, ⟨by decide, by decide⟩⟩, trivial⟩, trivial⟩, trivial⟩, trivial⟩, trivial⟩, trivial⟩, trivial⟩, trivial⟩, trivial⟩, ⟨by decide, by decide⟩⟩, trivial⟩, ⟨by decide, by decide⟩⟩, trivial⟩, trivial⟩, trivial⟩, trivial⟩, trivial⟩, trivial⟩, trivial⟩, trivial⟩, trivial⟩, ⟨by decide, by decide⟩⟩, trivial⟩, ⟨by decide, by decide⟩⟩, trivial⟩, trivial⟩, trivial⟩, trivial⟩, trivial⟩, trivial⟩, trivial⟩, trivial⟩, trivial⟩, ⟨by decide, by decide⟩⟩, trivial⟩, ⟨by decide, by decide⟩⟩, trivial⟩, trivial⟩, trivial⟩, trivial⟩, trivial⟩, trivial⟩, ⟨by decide, by decide⟩⟩, trivial⟩, (by decide)⟩, ⟨by decide, by decide⟩⟩, trivial⟩, trivial⟩, (is_lowV (fun j => byt_bd n j))⟩, trivial⟩, trivial⟩, trivial⟩, one_nu _⟩, trivial⟩, ⟨rfl, ⟨by decide, by decide⟩⟩⟩, one_nu _⟩, trivial⟩, one_nu _⟩, trivial⟩, trivial⟩, trivial⟩, ⟨(nuD.is_enc (mod_bd _)), (nuD.is_enc (mod_bd _))⟩⟩, ⟨(nuD.is_enc (bd_iNum)), (nuD.is_enc (mod_bd _))⟩⟩, one_nu _⟩, trivial⟩, trivial⟩, ⟨(nuD.is_enc (mod_bd _)), (nuD.is_enc ⟨by decide, by decide⟩)⟩⟩, trivial⟩, trivial⟩, trivial⟩, ⟨(nuD.is_enc (bd_d)), (nuD.is_enc (bd_d))⟩⟩, ⟨(nuD.is_enc ⟨by decide, by decide⟩), (nuD.is_enc (mod_bd _))⟩⟩, ⟨(nuD.is_enc (mod_bd _)), (nuD.is_enc (mod_bd _))⟩⟩, one_nu _⟩, trivial⟩, (nuD.is_enc ⟨by decide, by decide⟩)⟩, trivial⟩, trivial⟩, ⟨(nuD.is_enc (mod_bd _)), (nuD.is_enc (bd_d))⟩⟩, ⟨(nuD.is_enc (mod_bd _)), (nuD.is_enc (mod_bd _))⟩⟩, trivial⟩, trivial⟩, ⟨(nuD.is_enc (mod_bd _)), (nuD.is_enc (bd_d))⟩⟩, ⟨(nuD.is_enc (mod_bd _)), (nuD.is_enc (mod_bd _))⟩⟩, one_nu _⟩, trivial⟩, trivial⟩, ⟨(nuD.is_enc (mod_bd _)), (nuD.is_enc (mod_bd _))⟩⟩, trivial⟩, trivial⟩, ⟨trivial, h34⟩⟩, one_nu _⟩, trivial⟩, trivial⟩, (nuD.is_enc ⟨by decide, by decide⟩)⟩, one_nu _⟩, trivial⟩, trivial⟩, trivial⟩, trivial⟩, ⟨(nuD.is_enc (bd_d)), (nuD.is_enc ⟨by decide, by decide⟩)⟩⟩, one_nu _⟩, trivial⟩, trivial⟩, trivial⟩, ⟨(nuD.is_enc (mod_bd _)), (nuD.is_enc ⟨by decide, by decide⟩)⟩⟩, ⟨(nuD.is_enc (mod_bd _)), (nuD.is_enc (mod_bd _))⟩⟩, trivial⟩, trivial⟩, ⟨(nuD.is_enc (mod_bd _)), (nuD.is_enc (mod_bd _))⟩⟩, ⟨(nuD.is_enc (mod_bd _)), (nuD.is_enc (mod_bd _))⟩⟩, trivial⟩, ⟨(nuD.is_enc (mod_bd _)), (nuD.is_enc (mod_bd _))⟩⟩, one_nu _⟩, ⟨rfl, ⟨by decide, by decide⟩⟩⟩, trivial⟩, trivial⟩, ⟨(nuD.is_enc (bd_quoV _ _)), (nuD.is_enc (mod_bd _))⟩⟩, ⟨(nuD.is_enc ⟨by decide, by decide⟩), (nuD.is_enc (mod_bd _))⟩⟩, one_nu _⟩, trivial⟩, trivial⟩, ⟨(nuD.is_enc (mod_bd _)), (nuD.is_enc (bd_mNum))⟩⟩, one_nu _⟩, trivial⟩, trivial⟩, trivial⟩, ⟨(nuD.is_enc (bd_quoV _ _)), (nuD.is_enc (bd_quoV _ _))⟩⟩, ⟨(nuD.is_enc ⟨by decide, by decide⟩), (nuD.is_enc (mod_bd _))⟩⟩, one_nu _⟩, trivial⟩, trivial⟩, trivial⟩, ⟨(nuD.is_enc (bd_quoV _ _)), (nuD.is_enc (bd_quoV _ _))⟩⟩, ⟨(nuD.is_enc ⟨by decide, by decide⟩), (nuD.is_enc (mod_bd _))⟩⟩, one_nu _⟩, trivial⟩, trivial⟩, ⟨(nuD.is_enc (mod_bd _)), (nuD.is_enc (mod_bd _))⟩⟩, trivial⟩, trivial⟩, ⟨(nuD.is_enc (mod_bd _)), (nuD.is_enc (mod_bd _))⟩⟩, trivial⟩, trivial⟩, ⟨(nuD.is_enc (mod_bd _)), (nuD.is_enc (mod_bd _))⟩⟩, trivial⟩, rpC_one _⟩
def rhA_S (n : Int) : Value := cond (quoB ((rhA_u6 n)) ((rhA_u10 n))) (.agg (rpC (⟨(rhA_u24 n), (rhA_u25 n), (rhA_u26 n)⟩ : P3))) (.agg (rpC (⟨(rhA_u39 n), (rhA_u40 n), (rhA_u41 n)⟩ : P3)))
theorem rhA_e (n : Int) (hn : Ok6 n) : rhA_F n = rhA_S n := by
  unfold rhA_F rhA_S
  try simp only [nm_mod, nn_mod, nm_inv, nn_inv, nm_d, nn_d, nm_1, nn_1, nm_root, nn_quo, db_lowA, nn_i, nn_absm, nn_2, nn_mN, nn_quoV, rhA_x0 n hn, rhA_x1 n hn, rhA_x2 n hn, rhA_x3 n hn, rhA_x4 n hn, rhA_x5 n hn, rhA_x6 n hn, rhA_x7 n hn, rhA_x8 n hn, rhA_x9 n hn, rhA_x10 n hn, rhA_x11 n hn, rhA_x12 n hn, rhA_x13 n hn, rhA_x14 n hn, rhA_x15 n hn, rhA_x16 n hn, rhA_x17 n hn, rhA_x18 n hn, rhA_x19 n hn, rhA_x20 n hn, rhA_x21 n hn, rhA_x22 n hn, rhA_x23 n hn, rhA_x24 n hn, rhA_x25 n hn, rhA_x26 n hn, rhA_x27 n hn, rhA_x28 n hn, rhA_x29 n hn, rhA_x30 n hn, rhA_x31 n hn, rhA_x32 n hn, rhA_x33 n hn, rhA_x34 n hn, rhA_x35 n hn, rhA_x36 n hn, rhA_x37 n hn, rhA_x38 n hn, rhA_x39 n hn, rhA_x40 n hn, rhA_x41 n hn]
  try simp only [rhA_w0 n hn, rhA_w1 n hn, rhA_w2 n hn, rhA_w3 n hn, rhA_w4 n hn, rhA_w5 n hn, rhA_w6 n hn, rhA_w7 n hn, rhA_w8 n hn, rhA_w9 n hn, rhA_w10 n hn, rhA_w11 n hn, rhA_w12 n hn, rhA_w13 n hn, rhA_w14 n hn, rhA_w15 n hn, rhA_w16 n hn, rhA_w17 n hn, rhA_w18 n hn, rhA_w19 n hn, rhA_w20 n hn, rhA_w21 n hn, rhA_w22 n hn, rhA_w23 n hn, rhA_w24 n hn, rhA_w25 n hn, rhA_w26 n hn, rhA_w27 n hn, rhA_w28 n hn, rhA_w29 n hn, rhA_w30 n hn, rhA_w31 n hn, rhA_w32 n hn, rhA_w33 n hn, rhA_w34 n hn, rhA_w35 n hn, rhA_w36 n hn, rhA_w37 n hn, rhA_w38 n hn, rhA_w39 n hn, rhA_w40 n hn, rhA_w41 n hn]
def rhB_v0 (n : Int) : Int := db (lowV (fun j => byt n (32 + j))) % pr
def rhB_u0 (n : Int) : Int := db (lowV (fun j => byt n (32 + j))) % pr
theorem rhB_w0 (n : Int) (hn : Ok6 n) : rhB_v0 n = rhB_u0 n := by
  rfl
theorem rhB_x0 (n : Int) (hn : Ok6 n) : nn (nuC (rhB_v0 n)) = rhB_u0 n := by
  exact (nn_nuC _ (mod_bd _)).trans (rhB_w0 n hn)
def rhB_v1 (n : Int) : Int := nn (nuC (rhB_v0 n)) * nn (nuC (rhB_v0 n)) % pr
def rhB_u1 (n : Int) : Int := (rhB_u0 n) * (rhB_u0 n) % pr
theorem rhB_w1 (n : Int) (hn : Ok6 n) : rhB_v1 n = rhB_u1 n := by
  unfold rhB_v1 rhB_u1
  simp only [nm_mod, nn_mod, nm_inv, nn_inv, nm_d, nn_d, nm_1, nn_1, nm_root, nn_quo, db_lowB, nn_i, nn_absm, nn_2, nn_mN, nn_quoV, rhB_x0 n hn]
theorem rhB_x1 (n : Int) (hn : Ok6 n) : nn (nuC (rhB_v1 n)) = rhB_u1 n := by
  exact (nn_nuC _ (mod_bd _)).trans (rhB_w1 n hn)
def rhB_v2 (n : Int) : Int := nn (nuC iNum) * nn (nuC (rhB_v1 n)) % pr
def rhB_u2 (n : Int) : Int := iNum * (rhB_u1 n) % pr
theorem rhB_w2 (n : Int) (hn : Ok6 n) : rhB_v2 n = rhB_u2 n := by
  unfold rhB_v2 rhB_u2
  simp only [nm_mod, nn_mod, nm_inv, nn_inv, nm_d, nn_d, nm_1, nn_1, nm_root, nn_quo, db_lowB, nn_i, nn_absm, nn_2, nn_mN, nn_quoV, rhB_x1 n hn]
theorem rhB_x2 (n : Int) (hn : Ok6 n) : nn (nuC (rhB_v2 n)) = rhB_u2 n := by
  exact (nn_nuC _ (mod_bd _)).trans (rhB_w2 n hn)
def rhB_v3 (n : Int) : Int := (nn (nuC (rhB_v2 n)) + nn (nuC 1)) % pr
def rhB_u3 (n : Int) : Int := ((rhB_u2 n) + 1) % pr
theorem rhB_w3 (n : Int) (hn : Ok6 n) : rhB_v3 n = rhB_u3 n := by
  unfold rhB_v3 rhB_u3
  simp only [nm_mod, nn_mod, nm_inv, nn_inv, nm_d, nn_d, nm_1, nn_1, nm_root, nn_quo, db_lowB, nn_i, nn_absm, nn_2, nn_mN, nn_quoV, rhB_x2 n hn]
theorem rhB_x3 (n : Int) (hn : Ok6 n) : nn (nuC (rhB_v3 n)) = rhB_u3 n := by
  exact (nn_nuC _ (mod_bd _)).trans (rhB_w3 n hn)
def rhB_v4 (n : Int) : Int := nn (nuC dN) * nn (nuC dN) % pr
def rhB_u4 (n : Int) : Int := dN * dN % pr
theorem rhB_w4 (n : Int) (hn : Ok6 n) : rhB_v4 n = rhB_u4 n := by
  unfold rhB_v4 rhB_u4
  simp only [nm_mod, nn_mod, nm_inv, nn_inv, nm_d, nn_d, nm_1, nn_1, nm_root, nn_quo, db_lowB, nn_i, nn_absm, nn_2, nn_mN, nn_quoV]
theorem rhB_x4 (n : Int) (hn : Ok6 n) : nn (nuC (rhB_v4 n)) = rhB_u4 n := by
  exact (nn_nuC _ (mod_bd _)).trans (rhB_w4 n hn)
def rhB_v5 (n : Int) : Int := (nn (nuC 1) - nn (nuC (rhB_v4 n))) % pr
def rhB_u5 (n : Int) : Int := (1 - (rhB_u4 n)) % pr
theorem rhB_w5 (n : Int) (hn : Ok6 n) : rhB_v5 n = rhB_u5 n := by
  unfold rhB_v5 rhB_u5
  simp only [nm_mod, nn_mod, nm_inv, nn_inv, nm_d, nn_d, nm_1, nn_1, nm_root, nn_quo, db_lowB, nn_i, nn_absm, nn_2, nn_mN, nn_quoV, rhB_x4 n hn]
theorem rhB_x5 (n : Int) (hn : Ok6 n) : nn (nuC (rhB_v5 n)) = rhB_u5 n := by
  exact (nn_nuC _ (mod_bd _)).trans (rhB_w5 n hn)
def rhB_v6 (n : Int) : Int := nn (nuC (rhB_v3 n)) * nn (nuC (rhB_v5 n)) % pr
def rhB_u6 (n : Int) : Int := (rhB_u3 n) * (rhB_u5 n) % pr
theorem rhB_w6 (n : Int) (hn : Ok6 n) : rhB_v6 n = rhB_u6 n := by
  unfold rhB_v6 rhB_u6
  simp only [nm_mod, nn_mod, nm_inv, nn_inv, nm_d, nn_d, nm_1, nn_1, nm_root, nn_quo, db_lowB, nn_i, nn_absm, nn_2, nn_mN, nn_quoV, rhB_x3 n hn, rhB_x5 n hn]
theorem rhB_x6 (n : Int) (hn : Ok6 n) : nn (nuC (rhB_v6 n)) = rhB_u6 n := by
  exact (nn_nuC _ (mod_bd _)).trans (rhB_w6 n hn)
def rhB_v7 (n : Int) : Int := nn (nuC (rhB_v2 n)) * nn (nuC dN) % pr
def rhB_u7 (n : Int) : Int := (rhB_u2 n) * dN % pr
theorem rhB_w7 (n : Int) (hn : Ok6 n) : rhB_v7 n = rhB_u7 n := by
  unfold rhB_v7 rhB_u7
  simp only [nm_mod, nn_mod, nm_inv, nn_inv, nm_d, nn_d, nm_1, nn_1, nm_root, nn_quo, db_lowB, nn_i, nn_absm, nn_2, nn_mN, nn_quoV, rhB_x2 n hn]
theorem rhB_x7 (n : Int) (hn : Ok6 n) : nn (nuC (rhB_v7 n)) = rhB_u7 n := by
  exact (nn_nuC _ (mod_bd _)).trans (rhB_w7 n hn)
def rhB_v8 (n : Int) : Int := (nn (nuC (-(nn (nuC 1)) % pr)) - nn (nuC (rhB_v7 n))) % pr
def rhB_u8 (n : Int) : Int := ((-(1) % pr) - (rhB_u7 n)) % pr
theorem rhB_w8 (n : Int) (hn : Ok6 n) : rhB_v8 n = rhB_u8 n := by
  unfold rhB_v8 rhB_u8
  simp only [nm_mod, nn_mod, nm_inv, nn_inv, nm_d, nn_d, nm_1, nn_1, nm_root, nn_quo, db_lowB, nn_i, nn_absm, nn_2, nn_mN, nn_quoV, rhB_x7 n hn]
theorem rhB_x8 (n : Int) (hn : Ok6 n) : nn (nuC (rhB_v8 n)) = rhB_u8 n := by
  exact (nn_nuC _ (mod_bd _)).trans (rhB_w8 n hn)
def rhB_v9 (n : Int) : Int := (nn (nuC (rhB_v2 n)) + nn (nuC dN)) % pr
def rhB_u9 (n : Int) : Int := ((rhB_u2 n) + dN) % pr
theorem rhB_w9 (n : Int) (hn : Ok6 n) : rhB_v9 n = rhB_u9 n := by
  unfold rhB_v9 rhB_u9
  simp only [nm_mod, nn_mod, nm_inv, nn_inv, nm_d, nn_d, nm_1, nn_1, nm_root, nn_quo, db_lowB, nn_i, nn_absm, nn_2, nn_mN, nn_quoV, rhB_x2 n hn]
theorem rhB_x9 (n : Int) (hn : Ok6 n) : nn (nuC (rhB_v9 n)) = rhB_u9 n := by
  exact (nn_nuC _ (mod_bd _)).trans (rhB_w9 n hn)
def rhB_v10 (n : Int) : Int := nn (nuC (rhB_v8 n)) * nn (nuC (rhB_v9 n)) % pr
def rhB_u10 (n : Int) : Int := (rhB_u8 n) * (rhB_u9 n) % pr
theorem rhB_w10 (n : Int) (hn : Ok6 n) : rhB_v10 n = rhB_u10 n := by
  unfold rhB_v10 rhB_u10
  simp only [nm_mod, nn_mod, nm_inv, nn_inv, nm_d, nn_d, nm_1, nn_1, nm_root, nn_quo, db_lowB, nn_i, nn_absm, nn_2, nn_mN, nn_quoV, rhB_x8 n hn, rhB_x9 n hn]
theorem rhB_x10 (n : Int) (hn : Ok6 n) : nn (nuC (rhB_v10 n)) = rhB_u10 n := by
  exact (nn_nuC _ (mod_bd _)).trans (rhB_w10 n hn)
def rhB_v11 (n : Int) : Int := quoV (nn (nuC (rhB_v6 n))) (nn (nuC (rhB_v10 n)))
def rhB_u11 (n : Int) : Int := quoV ((rhB_u6 n)) ((rhB_u10 n))
theorem rhB_w11 (n : Int) (hn : Ok6 n) : rhB_v11 n = rhB_u11 n := by
  unfold rhB_v11 rhB_u11
  simp only [nm_mod, nn_mod, nm_inv, nn_inv, nm_d, nn_d, nm_1, nn_1, nm_root, nn_quo, db_lowB, nn_i, nn_absm, nn_2, nn_mN, nn_quoV, rhB_x6 n hn, rhB_x10 n hn]
theorem rhB_x11 (n : Int) (hn : Ok6 n) : nn (nuC (rhB_v11 n)) = rhB_u11 n := by
  exact (nn_nuC _ (bd_quoV _ _)).trans (rhB_w11 n hn)
def rhB_v12 (n : Int) : Int := (nn (nuC dN) - nn (nuC 1)) % pr
def rhB_u12 (n : Int) : Int := (dN - 1) % pr
theorem rhB_w12 (n : Int) (hn : Ok6 n) : rhB_v12 n = rhB_u12 n := by
  unfold rhB_v12 rhB_u12
  simp only [nm_mod, nn_mod, nm_inv, nn_inv, nm_d, nn_d, nm_1, nn_1, nm_root, nn_quo, db_lowB, nn_i, nn_absm, nn_2, nn_mN, nn_quoV]
theorem rhB_x12 (n : Int) (hn : Ok6 n) : nn (nuC (rhB_v12 n)) = rhB_u12 n := by
  exact (nn_nuC _ (mod_bd _)).trans (rhB_w12 n hn)
def rhB_v13 (n : Int) : Int := (nn (nuC (rhB_v2 n)) - nn (nuC 1)) % pr
def rhB_u13 (n : Int) : Int := ((rhB_u2 n) - 1) % pr
theorem rhB_w13 (n : Int) (hn : Ok6 n) : rhB_v13 n = rhB_u13 n := by
  unfold rhB_v13 rhB_u13
  simp only [nm_mod, nn_mod, nm_inv, nn_inv, nm_d, nn_d, nm_1, nn_1, nm_root, nn_quo, db_lowB, nn_i, nn_absm, nn_2, nn_mN, nn_quoV, rhB_x2 n hn]
theorem rhB_x13 (n : Int) (hn : Ok6 n) : nn (nuC (rhB_v13 n)) = rhB_u13 n := by
  exact (nn_nuC _ (mod_bd _)).trans (rhB_w13 n hn)
def rhB_v14 (n : Int) : Int := nn (nuC (-(nn (nuC 1)) % pr)) * nn (nuC (rhB_v13 n)) % pr
def rhB_u14 (n : Int) : Int := (-(1) % pr) * (rhB_u13 n) % pr
theorem rhB_w14 (n : Int) (hn : Ok6 n) : rhB_v14 n = rhB_u14 n := by
  unfold rhB_v14 rhB_u14
  simp only [nm_mod, nn_mod, nm_inv, nn_inv, nm_d, nn_d, nm_1, nn_1, nm_root, nn_quo, db_lowB, nn_i, nn_absm, nn_2, nn_mN, nn_quoV, rhB_x13 n hn]
theorem rhB_x14 (n : Int) (hn : Ok6 n) : nn (nuC (rhB_v14 n)) = rhB_u14 n := by
  exact (nn_nuC _ (mod_bd _)).trans (rhB_w14 n hn)
def rhB_v15 (n : Int) : Int := nn (nuC (rhB_v12 n)) * nn (nuC (rhB_v12 n)) % pr
def rhB_u15 (n : Int) : Int := (rhB_u12 n) * (rhB_u12 n) % pr
theorem rhB_w15 (n : Int) (hn : Ok6 n) : rhB_v15 n = rhB_u15 n := by
  unfold rhB_v15 rhB_u15
  simp only [nm_mod, nn_mod, nm_inv, nn_inv, nm_d, nn_d, nm_1, nn_1, nm_root, nn_quo, db_lowB, nn_i, nn_absm, nn_2, nn_mN, nn_quoV, rhB_x12 n hn]
theorem rhB_x15 (n : Int) (hn : Ok6 n) : nn (nuC (rhB_v15 n)) = rhB_u15 n := by
  exact (nn_nuC _ (mod_bd _)).trans (rhB_w15 n hn)
def rhB_v16 (n : Int) : Int := nn (nuC (rhB_v14 n)) * nn (nuC (rhB_v15 n)) % pr
def rhB_u16 (n : Int) : Int := (rhB_u14 n) * (rhB_u15 n) % pr
theorem rhB_w16 (n : Int) (hn : Ok6 n) : rhB_v16 n = rhB_u16 n := by
  unfold rhB_v16 rhB_u16
  simp only [nm_mod, nn_mod, nm_inv, nn_inv, nm_d, nn_d, nm_1, nn_1, nm_root, nn_quo, db_lowB, nn_i, nn_absm, nn_2, nn_mN, nn_quoV, rhB_x14 n hn, rhB_x15 n hn]
theorem rhB_x16 (n : Int) (hn : Ok6 n) : nn (nuC (rhB_v16 n)) = rhB_u16 n := by
  exact (nn_nuC _ (mod_bd _)).trans (rhB_w16 n hn)
def rhB_v17 (n : Int) : Int := (nn (nuC (rhB_v16 n)) - nn (nuC (rhB_v10 n))) % pr
def rhB_u17 (n : Int) : Int := ((rhB_u16 n) - (rhB_u10 n)) % pr
theorem rhB_w17 (n : Int) (hn : Ok6 n) : rhB_v17 n = rhB_u17 n := by
  unfold rhB_v17 rhB_u17
  simp only [nm_mod, nn_mod, nm_inv, nn_inv, nm_d, nn_d, nm_1, nn_1, nm_root, nn_quo, db_lowB, nn_i, nn_absm, nn_2, nn_mN, nn_quoV, rhB_x10 n hn, rhB_x16 n hn]
theorem rhB_x17 (n : Int) (hn : Ok6 n) : nn (nuC (rhB_v17 n)) = rhB_u17 n := by
  exact (nn_nuC _ (mod_bd _)).trans (rhB_w17 n hn)
def rhB_v18 (n : Int) : Int := nn (nuC (rhB_v11 n)) * nn (nuC (rhB_v10 n)) % pr
def rhB_u18 (n : Int) : Int := (rhB_u11 n) * (rhB_u10 n) % pr
theorem rhB_w18 (n : Int) (hn : Ok6 n) : rhB_v18 n = rhB_u18 n := by
  unfold rhB_v18 rhB_u18
  simp only [nm_mod, nn_mod, nm_inv, nn_inv, nm_d, nn_d, nm_1, nn_1, nm_root, nn_quo, db_lowB, nn_i, nn_absm, nn_2, nn_mN, nn_quoV, rhB_x10 n hn, rhB_x11 n hn]
theorem rhB_x18 (n : Int) (hn : Ok6 n) : nn (nuC (rhB_v18 n)) = rhB_u18 n := by
  exact (nn_nuC _ (mod_bd _)).trans (rhB_w18 n hn)
def rhB_v19 (n : Int) : Int := nn (nuC 2) * nn (nuC (rhB_v18 n)) % pr
def rhB_u19 (n : Int) : Int := 2 * (rhB_u18 n) % pr
theorem rhB_w19 (n : Int) (hn : Ok6 n) : rhB_v19 n = rhB_u19 n := by
  unfold rhB_v19 rhB_u19
  simp only [nm_mod, nn_mod, nm_inv, nn_inv, nm_d, nn_d, nm_1, nn_1, nm_root, nn_quo, db_lowB, nn_i, nn_absm, nn_2, nn_mN, nn_quoV, rhB_x18 n hn]
theorem rhB_x19 (n : Int) (hn : Ok6 n) : nn (nuC (rhB_v19 n)) = rhB_u19 n := by
  exact (nn_nuC _ (mod_bd _)).trans (rhB_w19 n hn)
def rhB_v20 (n : Int) : Int := nn (nuC (rhB_v17 n)) * nn (nuC mNum) % pr
def rhB_u20 (n : Int) : Int := (rhB_u17 n) * mNum % pr
theorem rhB_w20 (n : Int) (hn : Ok6 n) : rhB_v20 n = rhB_u20 n := by
  unfold rhB_v20 rhB_u20
  simp only [nm_mod, nn_mod, nm_inv, nn_inv, nm_d, nn_d, nm_1, nn_1, nm_root, nn_quo, db_lowB, nn_i, nn_absm, nn_2, nn_mN, nn_quoV, rhB_x17 n hn]
theorem rhB_x20 (n : Int) (hn : Ok6 n) : nn (nuC (rhB_v20 n)) = rhB_u20 n := by
  exact (nn_nuC _ (mod_bd _)).trans (rhB_w20 n hn)
def rhB_v21 (n : Int) : Int := nn (nuC (rhB_v11 n)) * nn (nuC (rhB_v11 n)) % pr
def rhB_u21 (n : Int) : Int := (rhB_u11 n) * (rhB_u11 n) % pr
theorem rhB_w21 (n : Int) (hn : Ok6 n) : rhB_v21 n = rhB_u21 n := by
  unfold rhB_v21 rhB_u21
  simp only [nm_mod, nn_mod, nm_inv, nn_inv, nm_d, nn_d, nm_1, nn_1, nm_root, nn_quo, db_lowB, nn_i, nn_absm, nn_2, nn_mN, nn_quoV, rhB_x11 n hn]
theorem rhB_x21 (n : Int) (hn : Ok6 n) : nn (nuC (rhB_v21 n)) = rhB_u21 n := by
  exact (nn_nuC _ (mod_bd _)).trans (rhB_w21 n hn)
def rhB_v22 (n : Int) : Int := (nn (nuC 1) - nn (nuC (rhB_v21 n))) % pr
def rhB_u22 (n : Int) : Int := (1 - (rhB_u21 n)) % pr
theorem rhB_w22 (n : Int) (hn : Ok6 n) : rhB_v22 n = rhB_u22 n := by
  unfold rhB_v22 rhB_u22
  simp only [nm_mod, nn_mod, nm_inv, nn_inv, nm_d, nn_d, nm_1, nn_1, nm_root, nn_quo, db_lowB, nn_i, nn_absm, nn_2, nn_mN, nn_quoV, rhB_x21 n hn]
theorem rhB_x22 (n : Int) (hn : Ok6 n) : nn (nuC (rhB_v22 n)) = rhB_u22 n := by
  exact (nn_nuC _ (mod_bd _)).trans (rhB_w22 n hn)
def rhB_v23 (n : Int) : Int := (nn (nuC 1) + nn (nuC (rhB_v21 n))) % pr
def rhB_u23 (n : Int) : Int := (1 + (rhB_u21 n)) % pr
theorem rhB_w23 (n : Int) (hn : Ok6 n) : rhB_v23 n = rhB_u23 n := by
  unfold rhB_v23 rhB_u23
  simp only [nm_mod, nn_mod, nm_inv, nn_inv, nm_d, nn_d, nm_1, nn_1, nm_root, nn_quo, db_lowB, nn_i, nn_absm, nn_2, nn_mN, nn_quoV, rhB_x21 n hn]
theorem rhB_x23 (n : Int) (hn : Ok6 n) : nn (nuC (rhB_v23 n)) = rhB_u23 n := by
  exact (nn_nuC _ (mod_bd _)).trans (rhB_w23 n hn)
def rhB_v24 (n : Int) : Int := nn (nuC (rhB_v19 n)) * nn (nuC (rhB_v23 n)) % pr
def rhB_u24 (n : Int) : Int := (rhB_u19 n) * (rhB_u23 n) % pr
theorem rhB_w24 (n : Int) (hn : Ok6 n) : rhB_v24 n = rhB_u24 n := by
  unfold rhB_v24 rhB_u24
  simp only [nm_mod, nn_mod, nm_inv, nn_inv, nm_d, nn_d, nm_1, nn_1, nm_root, nn_quo, db_lowB, nn_i, nn_absm, nn_2, nn_mN, nn_quoV, rhB_x19 n hn, rhB_x23 n hn]
theorem rhB_x24 (n : Int) (hn : Ok6 n) : nn (nuC (rhB_v24 n)) = rhB_u24 n := by
  exact (nn_nuC _ (mod_bd _)).trans (rhB_w24 n hn)
def rhB_v25 (n : Int) : Int := nn (nuC (rhB_v22 n)) * nn (nuC (rhB_v20 n)) % pr
def rhB_u25 (n : Int) : Int := (rhB_u22 n) * (rhB_u20 n) % pr
theorem rhB_w25 (n : Int) (hn : Ok6 n) : rhB_v25 n = rhB_u25 n := by
  unfold rhB_v25 rhB_u25
  simp only [nm_mod, nn_mod, nm_inv, nn_inv, nm_d, nn_d, nm_1, nn_1, nm_root, nn_quo, db_lowB, nn_i, nn_absm, nn_2, nn_mN, nn_quoV, rhB_x20 n hn, rhB_x22 n hn]
theorem rhB_x25 (n : Int) (hn : Ok6 n) : nn (nuC (rhB_v25 n)) = rhB_u25 n := by
  exact (nn_nuC _ (mod_bd _)).trans (rhB_w25 n hn)
def rhB_v26 (n : Int) : Int := nn (nuC (rhB_v20 n)) * nn (nuC (rhB_v23 n)) % pr
def rhB_u26 (n : Int) : Int := (rhB_u20 n) * (rhB_u23 n) % pr
theorem rhB_w26 (n : Int) (hn : Ok6 n) : rhB_v26 n = rhB_u26 n := by
  unfold rhB_v26 rhB_u26
  simp only [nm_mod, nn_mod, nm_inv, nn_inv, nm_d, nn_d, nm_1, nn_1, nm_root, nn_quo, db_lowB, nn_i, nn_absm, nn_2, nn_mN, nn_quoV, rhB_x20 n hn, rhB_x23 n hn]
theorem rhB_x26 (n : Int) (hn : Ok6 n) : nn (nuC (rhB_v26 n)) = rhB_u26 n := by
  exact (nn_nuC _ (mod_bd _)).trans (rhB_w26 n hn)
def rhB_v27 (n : Int) : Int := nn (nuC (rhB_v11 n)) * nn (nuC (rhB_v0 n)) % pr
def rhB_u27 (n : Int) : Int := (rhB_u11 n) * (rhB_u0 n) % pr
theorem rhB_w27 (n : Int) (hn : Ok6 n) : rhB_v27 n = rhB_u27 n := by
  unfold rhB_v27 rhB_u27
  simp only [nm_mod, nn_mod, nm_inv, nn_inv, nm_d, nn_d, nm_1, nn_1, nm_root, nn_quo, db_lowB, nn_i, nn_absm, nn_2, nn_mN, nn_quoV, rhB_x0 n hn, rhB_x11 n hn]
theorem rhB_x27 (n : Int) (hn : Ok6 n) : nn (nuC (rhB_v27 n)) = rhB_u27 n := by
  exact (nn_nuC _ (mod_bd _)).trans (rhB_w27 n hn)
def rhB_v28 (n : Int) : Int := absR (nn (nuC (rhB_v27 n)))
def rhB_u28 (n : Int) : Int := absR ((rhB_u27 n))
theorem rhB_w28 (n : Int) (hn : Ok6 n) : rhB_v28 n = rhB_u28 n := by
  unfold rhB_v28 rhB_u28
  simp only [nm_mod, nn_mod, nm_inv, nn_inv, nm_d, nn_d, nm_1, nn_1, nm_root, nn_quo, db_lowB, nn_i, nn_absm, nn_2, nn_mN, nn_quoV, rhB_x27 n hn]
theorem rhB_x28 (n : Int) (hn : Ok6 n) : nn (nuC (rhB_v28 n)) = rhB_u28 n := by
  exact (nn_nuC _ (bd_absR _ (bd_nn (mod_bd _)))).trans (rhB_w28 n hn)
def rhB_v29 (n : Int) : Int := -(nn (nuC (rhB_v28 n))) % pr
def rhB_u29 (n : Int) : Int := -((rhB_u28 n)) % pr
theorem rhB_w29 (n : Int) (hn : Ok6 n) : rhB_v29 n = rhB_u29 n := by
  unfold rhB_v29 rhB_u29
  simp only [nm_mod, nn_mod, nm_inv, nn_inv, nm_d, nn_d, nm_1, nn_1, nm_root, nn_quo, db_lowB, nn_i, nn_absm, nn_2, nn_mN, nn_quoV, rhB_x28 n hn]
theorem rhB_x29 (n : Int) (hn : Ok6 n) : nn (nuC (rhB_v29 n)) = rhB_u29 n := by
  exact (nn_nuC _ (mod_bd _)).trans (rhB_w29 n hn)
def rhB_v30 (n : Int) : Int := nn (nuC (rhB_v2 n)) * nn (nuC (rhB_v13 n)) % pr
def rhB_u30 (n : Int) : Int := (rhB_u2 n) * (rhB_u13 n) % pr
theorem rhB_w30 (n : Int) (hn : Ok6 n) : rhB_v30 n = rhB_u30 n := by
  unfold rhB_v30 rhB_u30
  simp only [nm_mod, nn_mod, nm_inv, nn_inv, nm_d, nn_d, nm_1, nn_1, nm_root, nn_quo, db_lowB, nn_i, nn_absm, nn_2, nn_mN, nn_quoV, rhB_x2 n hn, rhB_x13 n hn]
theorem rhB_x30 (n : Int) (hn : Ok6 n) : nn (nuC (rhB_v30 n)) = rhB_u30 n := by
  exact (nn_nuC _ (mod_bd _)).trans (rhB_w30 n hn)
def rhB_v31 (n : Int) : Int := nn (nuC (rhB_v30 n)) * nn (nuC (rhB_v15 n)) % pr
def rhB_u31 (n : Int) : Int := (rhB_u30 n) * (rhB_u15 n) % pr
theorem rhB_w31 (n : Int) (hn : Ok6 n) : rhB_v31 n = rhB_u31 n := by
  unfold rhB_v31 rhB_u31
  simp only [nm_mod, nn_mod, nm_inv, nn_inv, nm_d, nn_d, nm_1, nn_1, nm_root, nn_quo, db_lowB, nn_i, nn_absm, nn_2, nn_mN, nn_quoV, rhB_x15 n hn, rhB_x30 n hn]
theorem rhB_x31 (n : Int) (hn : Ok6 n) : nn (nuC (rhB_v31 n)) = rhB_u31 n := by
  exact (nn_nuC _ (mod_bd _)).trans (rhB_w31 n hn)
def rhB_v32 (n : Int) : Int := (nn (nuC (rhB_v31 n)) - nn (nuC (rhB_v10 n))) % pr
def rhB_u32 (n : Int) : Int := ((rhB_u31 n) - (rhB_u10 n)) % pr
theorem rhB_w32 (n : Int) (hn : Ok6 n) : rhB_v32 n = rhB_u32 n := by
  unfold rhB_v32 rhB_u32
  simp only [nm_mod, nn_mod, nm_inv, nn_inv, nm_d, nn_d, nm_1, nn_1, nm_root, nn_quo, db_lowB, nn_i, nn_absm, nn_2, nn_mN, nn_quoV, rhB_x10 n hn, rhB_x31 n hn]
theorem rhB_x32 (n : Int) (hn : Ok6 n) : nn (nuC (rhB_v32 n)) = rhB_u32 n := by
  exact (nn_nuC _ (mod_bd _)).trans (rhB_w32 n hn)
def rhB_v33 (n : Int) : Int := nn (nuC (rhB_v29 n)) * nn (nuC (rhB_v10 n)) % pr
def rhB_u33 (n : Int) : Int := (rhB_u29 n) * (rhB_u10 n) % pr
theorem rhB_w33 (n : Int) (hn : Ok6 n) : rhB_v33 n = rhB_u33 n := by
  unfold rhB_v33 rhB_u33
  simp only [nm_mod, nn_mod, nm_inv, nn_inv, nm_d, nn_d, nm_1, nn_1, nm_root, nn_quo, db_lowB, nn_i, nn_absm, nn_2, nn_mN, nn_quoV, rhB_x10 n hn, rhB_x29 n hn]
theorem rhB_x33 (n : Int) (hn : Ok6 n) : nn (nuC (rhB_v33 n)) = rhB_u33 n := by
  exact (nn_nuC _ (mod_bd _)).trans (rhB_w33 n hn)
def rhB_v34 (n : Int) : Int := nn (nuC 2) * nn (nuC (rhB_v33 n)) % pr
def rhB_u34 (n : Int) : Int := 2 * (rhB_u33 n) % pr
theorem rhB_w34 (n : Int) (hn : Ok6 n) : rhB_v34 n = rhB_u34 n := by
  unfold rhB_v34 rhB_u34
  simp only [nm_mod, nn_mod, nm_inv, nn_inv, nm_d, nn_d, nm_1, nn_1, nm_root, nn_quo, db_lowB, nn_i, nn_absm, nn_2, nn_mN, nn_quoV, rhB_x33 n hn]
theorem rhB_x34 (n : Int) (hn : Ok6 n) : nn (nuC (rhB_v34 n)) = rhB_u34 n := by
  exact (nn_nuC _ (mod_bd _)).trans (rhB_w34 n hn)
def rhB_v35 (n : Int) : Int := nn (nuC (rhB_v32 n)) * nn (nuC mNum) % pr
def rhB_u35 (n : Int) : Int := (rhB_u32 n) * mNum % pr
theorem rhB_w35 (n : Int) (hn : Ok6 n) : rhB_v35 n = rhB_u35 n := by
  unfold rhB_v35 rhB_u35
  simp only [nm_mod, nn_mod, nm_inv, nn_inv, nm_d, nn_d, nm_1, nn_1, nm_root, nn_quo, db_lowB, nn_i, nn_absm, nn_2, nn_mN, nn_quoV, rhB_x32 n hn]
theorem rhB_x35 (n : Int) (hn : Ok6 n) : nn (nuC (rhB_v35 n)) = rhB_u35 n := by
  exact (nn_nuC _ (mod_bd _)).trans (rhB_w35 n hn)
def rhB_v36 (n : Int) : Int := nn (nuC (rhB_v29 n)) * nn (nuC (rhB_v29 n)) % pr
def rhB_u36 (n : Int) : Int := (rhB_u29 n) * (rhB_u29 n) % pr
theorem rhB_w36 (n : Int) (hn : Ok6 n) : rhB_v36 n = rhB_u36 n := by
  unfold rhB_v36 rhB_u36
  simp only [nm_mod, nn_mod, nm_inv, nn_inv, nm_d, nn_d, nm_1, nn_1, nm_root, nn_quo, db_lowB, nn_i, nn_absm, nn_2, nn_mN, nn_quoV, rhB_x29 n hn]
theorem rhB_x36 (n : Int) (hn : Ok6 n) : nn (nuC (rhB_v36 n)) = rhB_u36 n := by
  exact (nn_nuC _ (mod_bd _)).trans (rhB_w36 n hn)
def rhB_v37 (n : Int) : Int := (nn (nuC 1) - nn (nuC (rhB_v36 n))) % pr
def rhB_u37 (n : Int) : Int := (1 - (rhB_u36 n)) % pr
theorem rhB_w37 (n : Int) (hn : Ok6 n) : rhB_v37 n = rhB_u37 n := by
  unfold rhB_v37 rhB_u37
  simp only [nm_mod, nn_mod, nm_inv, nn_inv, nm_d, nn_d, nm_1, nn_1, nm_root, nn_quo, db_lowB, nn_i, nn_absm, nn_2, nn_mN, nn_quoV, rhB_x36 n hn]
theorem rhB_x37 (n : Int) (hn : Ok6 n) : nn (nuC (rhB_v37 n)) = rhB_u37 n := by
  exact (nn_nuC _ (mod_bd _)).trans (rhB_w37 n hn)
def rhB_v38 (n : Int) : Int := (nn (nuC 1) + nn (nuC (rhB_v36 n))) % pr
def rhB_u38 (n : Int) : Int := (1 + (rhB_u36 n)) % pr
theorem rhB_w38 (n : Int) (hn : Ok6 n) : rhB_v38 n = rhB_u38 n := by
  unfold rhB_v38 rhB_u38
  simp only [nm_mod, nn_mod, nm_inv, nn_inv, nm_d, nn_d, nm_1, nn_1, nm_root, nn_quo, db_lowB, nn_i, nn_absm, nn_2, nn_mN, nn_quoV, rhB_x36 n hn]
theorem rhB_x38 (n : Int) (hn : Ok6 n) : nn (nuC (rhB_v38 n)) = rhB_u38 n := by
  exact (nn_nuC _ (mod_bd _)).trans (rhB_w38 n hn)
def rhB_v39 (n : Int) : Int := nn (nuC (rhB_v34 n)) * nn (nuC (rhB_v38 n)) % pr
def rhB_u39 (n : Int) : Int := (rhB_u34 n) * (rhB_u38 n) % pr
theorem rhB_w39 (n : Int) (hn : Ok6 n) : rhB_v39 n = rhB_u39 n := by
  unfold rhB_v39 rhB_u39
  simp only [nm_mod, nn_mod, nm_inv, nn_inv, nm_d, nn_d, nm_1, nn_1, nm_root, nn_quo, db_lowB, nn_i, nn_absm, nn_2, nn_mN, nn_quoV, rhB_x34 n hn, rhB_x38 n hn]
theorem rhB_x39 (n : Int) (hn : Ok6 n) : nn (nuC (rhB_v39 n)) = rhB_u39 n := by
  exact (nn_nuC _ (mod_bd _)).trans (rhB_w39 n hn)
def rhB_v40 (n : Int) : Int := nn (nuC (rhB_v37 n)) * nn (nuC (rhB_v35 n)) % pr
def rhB_u40 (n : Int) : Int := (rhB_u37 n) * (rhB_u35 n) % pr
theorem rhB_w40 (n : Int) (hn : Ok6 n) : rhB_v40 n = rhB_u40 n := by
  unfold rhB_v40 rhB_u40
  simp only [nm_mod, nn_mod, nm_inv, nn_inv, nm_d, nn_d, nm_1, nn_1, nm_root, nn_quo, db_lowB, nn_i, nn_absm, nn_2, nn_mN, nn_quoV, rhB_x35 n hn, rhB_x37 n hn]
theorem rhB_x40 (n : Int) (hn : Ok6 n) : nn (nuC (rhB_v40 n)) = rhB_u40 n := by
  exact (nn_nuC _ (mod_bd _)).trans (rhB_w40 n hn)
def rhB_v41 (n : Int) : Int := nn (nuC (rhB_v35 n)) * nn (nuC (rhB_v38 n)) % pr
def rhB_u41 (n : Int) : Int := (rhB_u35 n) * (rhB_u38 n) % pr
theorem rhB_w41 (n : Int) (hn : Ok6 n) : rhB_v41 n = rhB_u41 n := by
  unfold rhB_v41 rhB_u41
  simp only [nm_mod, nn_mod, nm_inv, nn_inv, nm_d, nn_d, nm_1, nn_1, nm_root, nn_quo, db_lowB, nn_i, nn_absm, nn_2, nn_mN, nn_quoV, rhB_x35 n hn, rhB_x38 n hn]
theorem rhB_x41 (n : Int) (hn : Ok6 n) : nn (nuC (rhB_v41 n)) = rhB_u41 n := by
  exact (nn_nuC _ (mod_bd _)).trans (rhB_w41 n hn)
def rhB_h (i : Nat) : Hn := if i = 10 then ⟨6, [], [], [], []⟩ else if i = 11 then ⟨10, [], [], [], []⟩ else if i = 12 then ⟨11, [], [], [], []⟩ else if i = 19 then ⟨12, [], [], [], []⟩ else if i = 20 then ⟨6, [], [], [], []⟩ else if i = 21 then ⟨4, [], [], [], []⟩ else if i = 22 then ⟨6, [], [], [], []⟩ else if i = 23 then ⟨6, [], [], [], []⟩ else if i = 24 then ⟨10, [], [], [], []⟩ else ⟨0, [], [], [], []⟩
set_option maxRecDepth 100000 in
theorem rhB_0 (n : Int) : evG (yty.enf tab15 1) rhB_h Try.f67 [((b6C n), 22)] [.slice (some ⟨0, 32, none⟩) 32 32] [none, none, none, none, none, none, none, none, none, none, none, none, none, none, none, none, none, none, none, none, none, none, none, none, none, none, none, none, none, none, none, none, none, none, none, none, none, none, none, none, none, none, none, none, none, none, none, none, none, none, none, none, none, none, none, none, none, none, none, none, none, none, none, none, none, none, none, none, none, none, none, none, none, none, none, none, none, none, none, none, none, none, none, none, none, none, none, none, none, none, none, none, none, none, none, none, none, none, none, none, some (.bool true)] = some (.agg (rpC (⟨(rhB_v24 n), (rhB_v25 n), (rhB_v26 n)⟩ : P3)), ((((((((((((((((((((((((((((((((((((((((((((((((((((((((((((((((((((((((((((((((((((((((((((((((((((((((((((((((((((((((((((((((((((((((((((((((((((((((((((((((((((((((((((((((((((((((((((((((((((((((((((((((((((((((((((((((((((((((((((((((((((((((((((((((((((((((((((((((((((((((((((((((((((((((((((((((((((((((((((((((((((((((((((((((((((((((((((((((((((((((((((((((((((((((((((((((((((((((((((((((((((((((((((((((((((((((((((((((((((((((((((((((((((((((((((((((((((((((((((((((((((((((((((True ∧ True) ∧ True) ∧ True) ∧ True) ∧ True) ∧ True) ∧ ((0 : Int) ≤ 0 ∧ (0 : Int) < ((32 : Nat) : Int))) ∧ True) ∧ ((0 : Int) ≤ 0 ∧ (0 : Int) < ((32 : Nat) : Int))) ∧ True) ∧ True) ∧ True) ∧ True) ∧ True) ∧ True) ∧ True) ∧ True) ∧ True) ∧ ((0 : Int) ≤ 1 ∧ (1 : Int) < ((32 : Nat) : Int))) ∧ True) ∧ ((0 : Int) ≤ 1 ∧ (1 : Int) < ((32 : Nat) : Int))) ∧ True) ∧ True) ∧ True) ∧ True) ∧ True) ∧ True) ∧ True) ∧ True) ∧ True) ∧ ((0 : Int) ≤ 2 ∧ (2 : Int) < ((32 : Nat) : Int))) ∧ True) ∧ ((0 : Int) ≤ 2 ∧ (2 : Int) < ((32 : Nat) : Int))) ∧ True) ∧ True) ∧ True) ∧ True) ∧ True) ∧ True) ∧ True) ∧ True) ∧ True) ∧ ((0 : Int) ≤ 3 ∧ (3 : Int) < ((32 : Nat) : Int))) ∧ True) ∧ ((0 : Int) ≤ 3 ∧ (3 : Int) < ((32 : Nat) : Int))) ∧ True) ∧ True) ∧ True) ∧ True) ∧ True) ∧ True) ∧ True) ∧ True) ∧ True) ∧ ((0 : Int) ≤ 4 ∧ (4 : Int) < ((32 : Nat) : Int))) ∧ True) ∧ ((0 : Int) ≤ 4 ∧ (4 : Int) < ((32 : Nat) : Int))) ∧ True) ∧ True) ∧ True) ∧ True) ∧ True) ∧ True) ∧ True) ∧ True) ∧ True) ∧ ((0 : Int) ≤ 5 ∧ (5 : Int) < ((32 : Nat) : Int))) ∧ True) ∧ ((0 : Int) ≤ 5 ∧ (5 : Int) < ((32 : Nat) : Int))) ∧ True) ∧ True) ∧ True) ∧ True) ∧ True) ∧ True) ∧ True) ∧ True) ∧ True) ∧ ((0 : Int) ≤ 6 ∧ (6 : Int) < ((32 : Nat) : Int))) ∧ True) ∧ ((0 : Int) ≤ 6 ∧ (6 : Int) < ((32 : Nat) : Int))) ∧ True) ∧ True) ∧ True) ∧ True) ∧ True) ∧ True) ∧ True) ∧ True) ∧ True) ∧ ((0 : Int) ≤ 7 ∧ (7 : Int) < ((32 : Nat) : Int))) ∧ True) ∧ ((0 : Int) ≤ 7 ∧ (7 : Int) < ((32 : Nat) : Int))) ∧ True) ∧ True) ∧ True) ∧ True) ∧ True) ∧ True) ∧ True) ∧ True) ∧ True) ∧ ((0 : Int) ≤ 8 ∧ (8 : Int) < ((32 : Nat) : Int))) ∧ True) ∧ ((0 : Int) ≤ 8 ∧ (8 : Int) < ((32 : Nat) : Int))) ∧ True) ∧ True) ∧ True) ∧ True) ∧ True) ∧ True) ∧ True) ∧ True) ∧ True) ∧ ((0 : Int) ≤ 9 ∧ (9 : Int) < ((32 : Nat) : Int))) ∧ True) ∧ ((0 : Int) ≤ 9 ∧ (9 : Int) < ((32 : Nat) : Int))) ∧ True) ∧ True) ∧ True) ∧ True) ∧ True) ∧ True) ∧ True) ∧ True) ∧ True) ∧ ((0 : Int) ≤ 10 ∧ (10 : Int) < ((32 : Nat) : Int))) ∧ True) ∧ ((0 : Int) ≤ 10 ∧ (10 : Int) < ((32 : Nat) : Int))) ∧ True) ∧ True) ∧ True) ∧ True) ∧ True) ∧ True) ∧ True) ∧ True) ∧ True) ∧ ((0 : Int) ≤ 11 ∧ (11 : Int) < ((32 : Nat) : Int))) ∧ True) ∧ ((0 : Int) ≤ 11 ∧ (11 : Int) < ((32 : Nat) : Int))) ∧ True) ∧ True) ∧ True) ∧ True) ∧ True) ∧ True) ∧ True) ∧ True) ∧ True) ∧ ((0 : Int) ≤ 12 ∧ (12 : Int) < ((32 : Nat) : Int))) ∧ True) ∧ ((0 : Int) ≤ 12 ∧ (12 : Int) < ((32 : Nat) : Int))) ∧ True) ∧ True) ∧ True) ∧ True) ∧ True) ∧ True) ∧ True) ∧ True) ∧ True) ∧ ((0 : Int) ≤ 13 ∧ (13 : Int) < ((32 : Nat) : Int))) ∧ True) ∧ ((0 : Int) ≤ 13 ∧ (13 : Int) < ((32 : Nat) : Int))) ∧ True) ∧ True) ∧ True) ∧ True) ∧ True) ∧ True) ∧ True) ∧ True) ∧ True) ∧ ((0 : Int) ≤ 14 ∧ (14 : Int) < ((32 : Nat) : Int))) ∧ True) ∧ ((0 : Int) ≤ 14 ∧ (14 : Int) < ((32 : Nat) : Int))) ∧ True) ∧ True) ∧ True) ∧ True) ∧ True) ∧ True) ∧ True) ∧ True) ∧ True) ∧ ((0 : Int) ≤ 15 ∧ (15 : Int) < ((32 : Nat) : Int))) ∧ True) ∧ ((0 : Int) ≤ 15 ∧ (15 : Int) < ((32 : Nat) : Int))) ∧ True) ∧ True) ∧ True) ∧ True) ∧ True) ∧ True) ∧ True) ∧ True) ∧ True) ∧ ((0 : Int) ≤ 16 ∧ (16 : Int) < ((32 : Nat) : Int))) ∧ True) ∧ ((0 : Int) ≤ 16 ∧ (16 : Int) < ((32 : Nat) : Int))) ∧ True) ∧ True) ∧ True) ∧ True) ∧ True) ∧ True) ∧ True) ∧ True) ∧ True) ∧ ((0 : Int) ≤ 17 ∧ (17 : Int) < ((32 : Nat) : Int))) ∧ True) ∧ ((0 : Int) ≤ 17 ∧ (17 : Int) < ((32 : Nat) : Int))) ∧ True) ∧ True) ∧ True) ∧ True) ∧ True) ∧ True) ∧ True) ∧ True) ∧ True) ∧ ((0 : Int) ≤ 18 ∧ (18 : Int) < ((32 : Nat) : Int))) ∧ True) ∧ ((0 : Int) ≤ 18 ∧ (18 : Int) < ((32 : Nat) : Int))) ∧ True) ∧ True) ∧ True) ∧ True) ∧ True) ∧ True) ∧ True) ∧ True) ∧ True) ∧ ((0 : Int) ≤ 19 ∧ (19 : Int) < ((32 : Nat) : Int))) ∧ True) ∧ ((0 : Int) ≤ 19 ∧ (19 : Int) < ((32 : Nat) : Int))) ∧ True) ∧ True) ∧ True) ∧ True) ∧ True) ∧ True) ∧ True) ∧ True) ∧ True) ∧ ((0 : Int) ≤ 20 ∧ (20 : Int) < ((32 : Nat) : Int))) ∧ True) ∧ ((0 : Int) ≤ 20 ∧ (20 : Int) < ((32 : Nat) : Int))) ∧ True) ∧ True) ∧ True) ∧ True) ∧ True) ∧ True) ∧ True) ∧ True) ∧ True) ∧ ((0 : Int) ≤ 21 ∧ (21 : Int) < ((32 : Nat) : Int))) ∧ True) ∧ ((0 : Int) ≤ 21 ∧ (21 : Int) < ((32 : Nat) : Int))) ∧ True) ∧ True) ∧ True) ∧ True) ∧ True) ∧ True) ∧ True) ∧ True) ∧ True) ∧ ((0 : Int) ≤ 22 ∧ (22 : Int) < ((32 : Nat) : Int))) ∧ True) ∧ ((0 : Int) ≤ 22 ∧ (22 : Int) < ((32 : Nat) : Int))) ∧ True) ∧ True) ∧ True) ∧ True) ∧ True) ∧ True) ∧ True) ∧ True) ∧ True) ∧ ((0 : Int) ≤ 23 ∧ (23 : Int) < ((32 : Nat) : Int))) ∧ True) ∧ ((0 : Int) ≤ 23 ∧ (23 : Int) < ((32 : Nat) : Int))) ∧ True) ∧ True) ∧ True) ∧ True) ∧ True) ∧ True) ∧ True) ∧ True) ∧ True) ∧ ((0 : Int) ≤ 24 ∧ (24 : Int) < ((32 : Nat) : Int))) ∧ True) ∧ ((0 : Int) ≤ 24 ∧ (24 : Int) < ((32 : Nat) : Int))) ∧ True) ∧ True) ∧ True) ∧ True) ∧ True) ∧ True) ∧ True) ∧ True) ∧ True) ∧ ((0 : Int) ≤ 25 ∧ (25 : Int) < ((32 : Nat) : Int))) ∧ True) ∧ ((0 : Int) ≤ 25 ∧ (25 : Int) < ((32 : Nat) : Int))) ∧ True) ∧ True) ∧ True) ∧ True) ∧ True) ∧ True) ∧ True) ∧ True) ∧ True) ∧ ((0 : Int) ≤ 26 ∧ (26 : Int) < ((32 : Nat) : Int))) ∧ True) ∧ ((0 : Int) ≤ 26 ∧ (26 : Int) < ((32 : Nat) : Int))) ∧ True) ∧ True) ∧ True) ∧ True) ∧ True) ∧ True) ∧ True) ∧ True) ∧ True) ∧ ((0 : Int) ≤ 27 ∧ (27 : Int) < ((32 : Nat) : Int))) ∧ True) ∧ ((0 : Int) ≤ 27 ∧ (27 : Int) < ((32 : Nat) : Int))) ∧ True) ∧ True) ∧ True) ∧ True) ∧ True) ∧ True) ∧ True) ∧ True) ∧ True) ∧ ((0 : Int) ≤ 28 ∧ (28 : Int) < ((32 : Nat) : Int))) ∧ True) ∧ ((0 : Int) ≤ 28 ∧ (28 : Int) < ((32 : Nat) : Int))) ∧ True) ∧ True) ∧ True) ∧ True) ∧ True) ∧ True) ∧ True) ∧ True) ∧ True) ∧ ((0 : Int) ≤ 29 ∧ (29 : Int) < ((32 : Nat) : Int))) ∧ True) ∧ ((0 : Int) ≤ 29 ∧ (29 : Int) < ((32 : Nat) : Int))) ∧ True) ∧ True) ∧ True) ∧ True) ∧ True) ∧ True) ∧ True) ∧ True) ∧ True) ∧ ((0 : Int) ≤ 30 ∧ (30 : Int) < ((32 : Nat) : Int))) ∧ True) ∧ ((0 : Int) ≤ 30 ∧ (30 : Int) < ((32 : Nat) : Int))) ∧ True) ∧ True) ∧ True) ∧ True) ∧ True) ∧ True) ∧ True) ∧ True) ∧ True) ∧ ((0 : Int) ≤ 31 ∧ (31 : Int) < ((32 : Nat) : Int))) ∧ True) ∧ ((0 : Int) ≤ 31 ∧ (31 : Int) < ((32 : Nat) : Int))) ∧ True) ∧ True) ∧ True) ∧ True) ∧ True) ∧ True) ∧ ((0 : Int) ≤ 31 ∧ (31 : Int) < ((32 : Nat) : Int))) ∧ True) ∧ ((128 : Int) ≠ 0)) ∧ ((0 : Int) ≤ 31 ∧ (31 : Int) < ((32 : Nat) : Int))) ∧ True) ∧ True) ∧ byD.is (lowV (fun j => byt n (32 + j)))) ∧ True) ∧ True) ∧ True) ∧ ((nuC (rhB_v0 n)).all (fun v => v.oneCell') = true)) ∧ True) ∧ (IntKind.u64 = IntKind.u64 ∧ w64 1)) ∧ ((nuC 1).all (fun v => v.oneCell') = true)) ∧ True) ∧ ((nuC dN).all (fun v => v.oneCell') = true)) ∧ True) ∧ True) ∧ True) ∧ (nuD.is (nuC (rhB_v0 n)) ∧ nuD.is (nuC (rhB_v0 n)))) ∧ (nuD.is (nuC iNum) ∧ nuD.is (nuC (rhB_v1 n)))) ∧ ((nuC (rhB_v2 n)).all (fun v => v.oneCell') = true)) ∧ True) ∧ True) ∧ (nuD.is (nuC (rhB_v2 n)) ∧ nuD.is (nuC 1))) ∧ True) ∧ True) ∧ True) ∧ (nuD.is (nuC dN) ∧ nuD.is (nuC dN))) ∧ (nuD.is (nuC 1) ∧ nuD.is (nuC (rhB_v4 n)))) ∧ (nuD.is (nuC (rhB_v3 n)) ∧ nuD.is (nuC (rhB_v5 n)))) ∧ ((nuC (rhB_v6 n)).all (fun v => v.oneCell') = true)) ∧ True) ∧ nuD.is (nuC 1)) ∧ True) ∧ True) ∧ (nuD.is (nuC (rhB_v2 n)) ∧ nuD.is (nuC dN))) ∧ (nuD.is (nuC (-(nn (nuC 1)) % pr)) ∧ nuD.is (nuC (rhB_v7 n)))) ∧ True) ∧ True) ∧ (nuD.is (nuC (rhB_v2 n)) ∧ nuD.is (nuC dN))) ∧ (nuD.is (nuC (rhB_v8 n)) ∧ nuD.is (nuC (rhB_v9 n)))) ∧ ((nuC (rhB_v10 n)).all (fun v => v.oneCell') = true)) ∧ True) ∧ True) ∧ (nuD.is (nuC (rhB_v6 n)) ∧ nuD.is (nuC (rhB_v10 n)))) ∧ True) ∧ True) ∧ (True ∧ (quoB (nn (nuC (rhB_v6 n))) (nn (nuC (rhB_v10 n)))) = true)) ∧ ((nuC (rhB_v11 n)).all (fun v => v.oneCell') = true)) ∧ True) ∧ True) ∧ nuD.is (nuC 1)) ∧ ((nuC (-(nn (nuC 1)) % pr)).all (fun v => v.oneCell') = true)) ∧ True) ∧ True) ∧ True) ∧ True) ∧ (nuD.is (nuC dN) ∧ nuD.is (nuC 1))) ∧ ((nuC (rhB_v12 n)).all (fun v => v.oneCell') = true)) ∧ True) ∧ True) ∧ True) ∧ (nuD.is (nuC (rhB_v2 n)) ∧ nuD.is (nuC 1))) ∧ (nuD.is (nuC (-(nn (nuC 1)) % pr)) ∧ nuD.is (nuC (rhB_v13 n)))) ∧ True) ∧ True) ∧ (nuD.is (nuC (rhB_v12 n)) ∧ nuD.is (nuC (rhB_v12 n)))) ∧ (nuD.is (nuC (rhB_v14 n)) ∧ nuD.is (nuC (rhB_v15 n)))) ∧ True) ∧ (nuD.is (nuC (rhB_v16 n)) ∧ nuD.is (nuC (rhB_v10 n)))) ∧ ((nuC (rhB_v17 n)).all (fun v => v.oneCell') = true)) ∧ (IntKind.u64 = IntKind.u64 ∧ w64 2)) ∧ True) ∧ True) ∧ (nuD.is (nuC (rhB_v11 n)) ∧ nuD.is (nuC (rhB_v10 n)))) ∧ (nuD.is (nuC 2) ∧ nuD.is (nuC (rhB_v18 n)))) ∧ ((nuC (rhB_v19 n)).all (fun v => v.oneCell') = true)) ∧ True) ∧ True) ∧ (nuD.is (nuC (rhB_v17 n)) ∧ nuD.is (nuC mNum))) ∧ ((nuC (rhB_v20 n)).all (fun v => v.oneCell') = true)) ∧ True) ∧ True) ∧ True) ∧ (nuD.is (nuC (rhB_v11 n)) ∧ nuD.is (nuC (rhB_v11 n)))) ∧ (nuD.is (nuC 1) ∧ nuD.is (nuC (rhB_v21 n)))) ∧ ((nuC (rhB_v22 n)).all (fun v => v.oneCell') = true)) ∧ True) ∧ True) ∧ True) ∧ (nuD.is (nuC (rhB_v11 n)) ∧ nuD.is (nuC (rhB_v11 n)))) ∧ (nuD.is (nuC 1) ∧ nuD.is (nuC (rhB_v21 n)))) ∧ ((nuC (rhB_v23 n)).all (fun v => v.oneCell') = true)) ∧ True) ∧ True) ∧ (nuD.is (nuC (rhB_v19 n)) ∧ nuD.is (nuC (rhB_v23 n)))) ∧ True) ∧ True) ∧ (nuD.is (nuC (rhB_v22 n)) ∧ nuD.is (nuC (rhB_v20 n)))) ∧ True) ∧ True) ∧ (nuD.is (nuC (rhB_v20 n)) ∧ nuD.is (nuC (rhB_v23 n)))) ∧ True) ∧ ((rpC (⟨(rhB_v24 n), (rhB_v25 n), (rhB_v26 n)⟩ : P3)).all (fun v => v.oneCell') = true))) := by kernel_rfl
set_option maxRecDepth 100000 in
theorem rhB_1 (n : Int) : evG (yty.enf tab15 1) rhB_h Try.f67 [((b6C n), 22)] [.slice (some ⟨0, 32, none⟩) 32 32] [none, none, none, none, none, none, none, none, none, none, none, none, none, none, none, none, none, none, none, none, none, none, none, none, none, none, none, none, none, none, none, none, none, none, none, none, none, none, none, none, none, none, none, none, none, none, none, none, none, none, none, none, none, none, none, none, none, none, none, none, none, none, none, none, none, none, none, none, none, none, none, none, none, none, none, none, none, none, none, none, none, none, none, none, none, none, none, none, none, none, none, none, none, none, none, none, none, none, none, none, some (.bool false)] = some (.agg (rpC (⟨(rhB_v39 n), (rhB_v40 n), (rhB_v41 n)⟩ : P3)), ((((((((((((((((((((((((((((((((((((((((((((((((((((((((((((((((((((((((((((((((((((((((((((((((((((((((((((((((((((((((((((((((((((((((((((((((((((((((((((((((((((((((((((((((((((((((((((((((((((((((((((((((((((((((((((((((((((((((((((((((((((((((((((((((((((((((((((((((((((((((((((((((((((((((((((((((((((((((((((((((((((((((((((((((((((((((((((((((((((((((((((((((((((((((((((((((((((((((((((((((((((((((((((((((((((((((((((((((((((((((((((((((((((((((((((((((((((((((((((((((((((((((((((((((((((True ∧ True) ∧ True) ∧ True) ∧ True) ∧ True) ∧ True) ∧ ((0 : Int) ≤ 0 ∧ (0 : Int) < ((32 : Nat) : Int))) ∧ True) ∧ ((0 : Int) ≤ 0 ∧ (0 : Int) < ((32 : Nat) : Int))) ∧ True) ∧ True) ∧ True) ∧ True) ∧ True) ∧ True) ∧ True) ∧ True) ∧ True) ∧ ((0 : Int) ≤ 1 ∧ (1 : Int) < ((32 : Nat) : Int))) ∧ True) ∧ ((0 : Int) ≤ 1 ∧ (1 : Int) < ((32 : Nat) : Int))) ∧ True) ∧ True) ∧ True) ∧ True) ∧ True) ∧ True) ∧ True) ∧ True) ∧ True) ∧ ((0 : Int) ≤ 2 ∧ (2 : Int) < ((32 : Nat) : Int))) ∧ True) ∧ ((0 : Int) ≤ 2 ∧ (2 : Int) < ((32 : Nat) : Int))) ∧ True) ∧ True) ∧ True) ∧ True) ∧ True) ∧ True) ∧ True) ∧ True) ∧ True) ∧ ((0 : Int) ≤ 3 ∧ (3 : Int) < ((32 : Nat) : Int))) ∧ True) ∧ ((0 : Int) ≤ 3 ∧ (3 : Int) < ((32 : Nat) : Int))) ∧ True) ∧ True) ∧ True) ∧ True) ∧ True) ∧ True) ∧ True) ∧ True) ∧ True) ∧ ((0 : Int) ≤ 4 ∧ (4 : Int) < ((32 : Nat) : Int))) ∧ True) ∧ ((0 : Int) ≤ 4 ∧ (4 : Int) < ((32 : Nat) : Int))) ∧ True) ∧ True) ∧ True) ∧ True) ∧ True) ∧ True) ∧ True) ∧ True) ∧ True) ∧ ((0 : Int) ≤ 5 ∧ (5 : Int) < ((32 : Nat) : Int))) ∧ True) ∧ ((0 : Int) ≤ 5 ∧ (5 : Int) < ((32 : Nat) : Int))) ∧ True) ∧ True) ∧ True) ∧ True) ∧ True) ∧ True) ∧ True) ∧ True) ∧ True) ∧ ((0 : Int) ≤ 6 ∧ (6 : Int) < ((32 : Nat) : Int))) ∧ True) ∧ ((0 : Int) ≤ 6 ∧ (6 : Int) < ((32 : Nat) : Int))) ∧ True) ∧ True) ∧ True) ∧ True) ∧ True) ∧ True) ∧ True) ∧ True) ∧ True) ∧ ((0 : Int) ≤ 7 ∧ (7 : Int) < ((32 : Nat) : Int))) ∧ True) ∧ ((0 : Int) ≤ 7 ∧ (7 : Int) < ((32 : Nat) : Int))) ∧ True) ∧ True) ∧ True) ∧ True) ∧ True) ∧ True) ∧ True) ∧ True) ∧ True) ∧ ((0 : Int) ≤ 8 ∧ (8 : Int) < ((32 : Nat) : Int))) ∧ True) ∧ ((0 : Int) ≤ 8 ∧ (8 : Int) < ((32 : Nat) : Int))) ∧ True) ∧ True) ∧ True) ∧ True) ∧ True) ∧ True) ∧ True) ∧ True) ∧ True) ∧ ((0 : Int) ≤ 9 ∧ (9 : Int) < ((32 : Nat) : Int))) ∧ True) ∧ ((0 : Int) ≤ 9 ∧ (9 : Int) < ((32 : Nat) : Int))) ∧ True) ∧ True) ∧ True) ∧ True) ∧ True) ∧ True) ∧ True) ∧ True) ∧ True) ∧ ((0 : Int) ≤ 10 ∧ (10 : Int) < ((32 : Nat) : Int))) ∧ True) ∧ ((0 : Int) ≤ 10 ∧ (10 : Int) < ((32 : Nat) : Int))) ∧ True) ∧ True) ∧ True) ∧ True) ∧ True) ∧ True) ∧ True) ∧ True) ∧ True) ∧ ((0 : Int) ≤ 11 ∧ (11 : Int) < ((32 : Nat) : Int))) ∧ True) ∧ ((0 : Int) ≤ 11 ∧ (11 : Int) < ((32 : Nat) : Int))) ∧ True) ∧ True) ∧ True) ∧ True) ∧ True) ∧ True) ∧ True) ∧ True) ∧ True) ∧ ((0 : Int) ≤ 12 ∧ (12 : Int) < ((32 : Nat) : Int))) ∧ True) ∧ ((0 : Int) ≤ 12 ∧ (12 : Int) < ((32 : Nat) : Int))) ∧ True) ∧ True) ∧ True) ∧ True) ∧ True) ∧ True) ∧ True) ∧ True) ∧ True) ∧ ((0 : Int) ≤ 13 ∧ (13 : Int) < ((32 : Nat) : Int))) ∧ True) ∧ ((0 : Int) ≤ 13 ∧ (13 : Int) < ((32 : Nat) : Int))) ∧ True) ∧ True) ∧ True) ∧ True) ∧ True) ∧ True) ∧ True) ∧ True) ∧ True) ∧ ((0 : Int) ≤ 14 ∧ (14 : Int) < ((32 : Nat) : Int))) ∧ True) ∧ ((0 : Int) ≤ 14 ∧ (14 : Int) < ((32 : Nat) : Int))) ∧ True) ∧ True) ∧ True) ∧ True) ∧ True) ∧ True) ∧ True) ∧ True) ∧ True) ∧ ((0 : Int) ≤ 15 ∧ (15 : Int) < ((32 : Nat) : Int))) ∧ True) ∧ ((0 : Int) ≤ 15 ∧ (15 : Int) < ((32 : Nat) : Int))) ∧ True) ∧ True) ∧ True) ∧ True) ∧ True) ∧ True) ∧ True) ∧ True) ∧ True) ∧ ((0 : Int) ≤ 16 ∧ (16 : Int) < ((32 : Nat) : Int))) ∧ True) ∧ ((0 : Int) ≤ 16 ∧ (16 : Int) < ((32 : Nat) : Int))) ∧ True) ∧ True) ∧ True) ∧ True) ∧ True) ∧ True) ∧ True) ∧ True) ∧ True) ∧ ((0 : Int) ≤ 17 ∧ (17 : Int) < ((32 : Nat) : Int))) ∧ True) ∧ ((0 : Int) ≤ 17 ∧ (17 : Int) < ((32 : Nat) : Int))) ∧ True) ∧ True) ∧ True) ∧ True) ∧ True) ∧ True) ∧ True) ∧ True) ∧ True) ∧ ((0 : Int) ≤ 18 ∧ (18 : Int) < ((32 : Nat) : Int))) ∧ True) ∧ ((0 : Int) ≤ 18 ∧ (18 : Int) < ((32 : Nat) : Int))) ∧ True) ∧ True) ∧ True) ∧ True) ∧ True) ∧ True) ∧ True) ∧ True) ∧ True) ∧ ((0 : Int) ≤ 19 ∧ (19 : Int) < ((32 : Nat) : Int))) ∧ True) ∧ ((0 : Int) ≤ 19 ∧ (19 : Int) < ((32 : Nat) : Int))) ∧ True) ∧ True) ∧ True) ∧ True) ∧ True) ∧ True) ∧ True) ∧ True) ∧ True) ∧ ((0 : Int) ≤ 20 ∧ (20 : Int) < ((32 : Nat) : Int))) ∧ True) ∧ ((0 : Int) ≤ 20 ∧ (20 : Int) < ((32 : Nat) : Int))) ∧ True) ∧ True) ∧ True) ∧ True) ∧ True) ∧ True) ∧ True) ∧ True) ∧ True) ∧ ((0 : Int) ≤ 21 ∧ (21 : Int) < ((32 : Nat) : Int))) ∧ True) ∧ ((0 : Int) ≤ 21 ∧ (21 : Int) < ((32 : Nat) : Int))) ∧ True) ∧ True) ∧ True) ∧ True) ∧ True) ∧ True) ∧ True) ∧ True) ∧ True) ∧ ((0 : Int) ≤ 22 ∧ (22 : Int) < ((32 : Nat) : Int))) ∧ True) ∧ ((0 : Int) ≤ 22 ∧ (22 : Int) < ((32 : Nat) : Int))) ∧ True) ∧ True) ∧ True) ∧ True) ∧ True) ∧ True) ∧ True) ∧ True) ∧ True) ∧ ((0 : Int) ≤ 23 ∧ (23 : Int) < ((32 : Nat) : Int))) ∧ True) ∧ ((0 : Int) ≤ 23 ∧ (23 : Int) < ((32 : Nat) : Int))) ∧ True) ∧ True) ∧ True) ∧ True) ∧ True) ∧ True) ∧ True) ∧ True) ∧ True) ∧ ((0 : Int) ≤ 24 ∧ (24 : Int) < ((32 : Nat) : Int))) ∧ True) ∧ ((0 : Int) ≤ 24 ∧ (24 : Int) < ((32 : Nat) : Int))) ∧ True) ∧ True) ∧ True) ∧ True) ∧ True) ∧ True) ∧ True) ∧ True) ∧ True) ∧ ((0 : Int) ≤ 25 ∧ (25 : Int) < ((32 : Nat) : Int))) ∧ True) ∧ ((0 : Int) ≤ 25 ∧ (25 : Int) < ((32 : Nat) : Int))) ∧ True) ∧ True) ∧ True) ∧ True) ∧ True) ∧ True) ∧ True) ∧ True) ∧ True) ∧ ((0 : Int) ≤ 26 ∧ (26 : Int) < ((32 : Nat) : Int))) ∧ True) ∧ ((0 : Int) ≤ 26 ∧ (26 : Int) < ((32 : Nat) : Int))) ∧ True) ∧ True) ∧ True) ∧ True) ∧ True) ∧ True) ∧ True) ∧ True) ∧ True) ∧ ((0 : Int) ≤ 27 ∧ (27 : Int) < ((32 : Nat) : Int))) ∧ True) ∧ ((0 : Int) ≤ 27 ∧ (27 : Int) < ((32 : Nat) : Int))) ∧ True) ∧ True) ∧ True) ∧ True) ∧ True) ∧ True) ∧ True) ∧ True) ∧ True) ∧ ((0 : Int) ≤ 28 ∧ (28 : Int) < ((32 : Nat) : Int))) ∧ True) ∧ ((0 : Int) ≤ 28 ∧ (28 : Int) < ((32 : Nat) : Int))) ∧ True) ∧ True) ∧ True) ∧ True) ∧ True) ∧ True) ∧ True) ∧ True) ∧ True) ∧ ((0 : Int) ≤ 29 ∧ (29 : Int) < ((32 : Nat) : Int))) ∧ True) ∧ ((0 : Int) ≤ 29 ∧ (29 : Int) < ((32 : Nat) : Int))) ∧ True) ∧ True) ∧ True) ∧ True) ∧ True) ∧ True) ∧ True) ∧ True) ∧ True) ∧ ((0 : Int) ≤ 30 ∧ (30 : Int) < ((32 : Nat) : Int))) ∧ True) ∧ ((0 : Int) ≤ 30 ∧ (30 : Int) < ((32 : Nat) : Int))) ∧ True) ∧ True) ∧ True) ∧ True) ∧ True) ∧ True) ∧ True) ∧ True) ∧ True) ∧ ((0 : Int) ≤ 31 ∧ (31 : Int) < ((32 : Nat) : Int))) ∧ True) ∧ ((0 : Int) ≤ 31 ∧ (31 : Int) < ((32 : Nat) : Int))) ∧ True) ∧ True) ∧ True) ∧ True) ∧ True) ∧ True) ∧ ((0 : Int) ≤ 31 ∧ (31 : Int) < ((32 : Nat) : Int))) ∧ True) ∧ ((128 : Int) ≠ 0)) ∧ ((0 : Int) ≤ 31 ∧ (31 : Int) < ((32 : Nat) : Int))) ∧ True) ∧ True) ∧ byD.is (lowV (fun j => byt n (32 + j)))) ∧ True) ∧ True) ∧ True) ∧ ((nuC (rhB_v0 n)).all (fun v => v.oneCell') = true)) ∧ True) ∧ (IntKind.u64 = IntKind.u64 ∧ w64 1)) ∧ ((nuC 1).all (fun v => v.oneCell') = true)) ∧ True) ∧ ((nuC dN).all (fun v => v.oneCell') = true)) ∧ True) ∧ True) ∧ True) ∧ (nuD.is (nuC (rhB_v0 n)) ∧ nuD.is (nuC (rhB_v0 n)))) ∧ (nuD.is (nuC iNum) ∧ nuD.is (nuC (rhB_v1 n)))) ∧ ((nuC (rhB_v2 n)).all (fun v => v.oneCell') = true)) ∧ True) ∧ True) ∧ (nuD.is (nuC (rhB_v2 n)) ∧ nuD.is (nuC 1))) ∧ True) ∧ True) ∧ True) ∧ (nuD.is (nuC dN) ∧ nuD.is (nuC dN))) ∧ (nuD.is (nuC 1) ∧ nuD.is (nuC (rhB_v4 n)))) ∧ (nuD.is (nuC (rhB_v3 n)) ∧ nuD.is (nuC (rhB_v5 n)))) ∧ ((nuC (rhB_v6 n)).all (fun v => v.oneCell') = true)) ∧ True) ∧ nuD.is (nuC 1)) ∧ True) ∧ True) ∧ (nuD.is (nuC (rhB_v2 n)) ∧ nuD.is (nuC dN))) ∧ (nuD.is (nuC (-(nn (nuC 1)) % pr)) ∧ nuD.is (nuC (rhB_v7 n)))) ∧ True) ∧ True) ∧ (nuD.is (nuC (rhB_v2 n)) ∧ nuD.is (nuC dN))) ∧ (nuD.is (nuC (rhB_v8 n)) ∧ nuD.is (nuC (rhB_v9 n)))) ∧ ((nuC (rhB_v10 n)).all (fun v => v.oneCell') = true)) ∧ True) ∧ True) ∧ (nuD.is (nuC (rhB_v6 n)) ∧ nuD.is (nuC (rhB_v10 n)))) ∧ True) ∧ True) ∧ (True ∧ (quoB (nn (nuC (rhB_v6 n))) (nn (nuC (rhB_v10 n)))) = false)) ∧ ((nuC (rhB_v11 n)).all (fun v => v.oneCell') = true)) ∧ True) ∧ True) ∧ nuD.is (nuC 1)) ∧ ((nuC (-(nn (nuC 1)) % pr)).all (fun v => v.oneCell') = true)) ∧ True) ∧ True) ∧ True) ∧ True) ∧ (nuD.is (nuC (rhB_v11 n)) ∧ nuD.is (nuC (rhB_v0 n)))) ∧ nuD.is (nuC (rhB_v27 n))) ∧ nuD.is (nuC (rhB_v28 n))) ∧ ((nuC (rhB_v29 n)).all (fun v => v.oneCell') = true)) ∧ True) ∧ ((nuC (rhB_v2 n)).all (fun v => v.oneCell') = true)) ∧ True) ∧ True) ∧ (nuD.is (nuC dN) ∧ nuD.is (nuC 1))) ∧ ((nuC (rhB_v12 n)).all (fun v => v.oneCell') = true)) ∧ True) ∧ True) ∧ True) ∧ (nuD.is (nuC (rhB_v2 n)) ∧ nuD.is (nuC 1))) ∧ (nuD.is (nuC (rhB_v2 n)) ∧ nuD.is (nuC (rhB_v13 n)))) ∧ True) ∧ True) ∧ (nuD.is (nuC (rhB_v12 n)) ∧ nuD.is (nuC (rhB_v12 n)))) ∧ (nuD.is (nuC (rhB_v30 n)) ∧ nuD.is (nuC (rhB_v15 n)))) ∧ True) ∧ (nuD.is (nuC (rhB_v31 n)) ∧ nuD.is (nuC (rhB_v10 n)))) ∧ ((nuC (rhB_v32 n)).all (fun v => v.oneCell') = true)) ∧ (IntKind.u64 = IntKind.u64 ∧ w64 2)) ∧ True) ∧ True) ∧ (nuD.is (nuC (rhB_v29 n)) ∧ nuD.is (nuC (rhB_v10 n)))) ∧ (nuD.is (nuC 2) ∧ nuD.is (nuC (rhB_v33 n)))) ∧ ((nuC (rhB_v34 n)).all (fun v => v.oneCell') = true)) ∧ True) ∧ True) ∧ (nuD.is (nuC (rhB_v32 n)) ∧ nuD.is (nuC mNum))) ∧ ((nuC (rhB_v35 n)).all (fun v => v.oneCell') = true)) ∧ True) ∧ True) ∧ True) ∧ (nuD.is (nuC (rhB_v29 n)) ∧ nuD.is (nuC (rhB_v29 n)))) ∧ (nuD.is (nuC 1) ∧ nuD.is (nuC (rhB_v36 n)))) ∧ ((nuC (rhB_v37 n)).all (fun v => v.oneCell') = true)) ∧ True) ∧ True) ∧ True) ∧ (nuD.is (nuC (rhB_v29 n)) ∧ nuD.is (nuC (rhB_v29 n)))) ∧ (nuD.is (nuC 1) ∧ nuD.is (nuC (rhB_v36 n)))) ∧ ((nuC (rhB_v38 n)).all (fun v => v.oneCell') = true)) ∧ True) ∧ True) ∧ (nuD.is (nuC (rhB_v34 n)) ∧ nuD.is (nuC (rhB_v38 n)))) ∧ True) ∧ True) ∧ (nuD.is (nuC (rhB_v37 n)) ∧ nuD.is (nuC (rhB_v35 n)))) ∧ True) ∧ True) ∧ (nuD.is (nuC (rhB_v35 n)) ∧ nuD.is (nuC (rhB_v38 n)))) ∧ True) ∧ ((rpC (⟨(rhB_v39 n), (rhB_v40 n), (rhB_v41 n)⟩ : P3)).all (fun v => v.oneCell') = true))) := by kernel_rfl
def rhB_F (n : Int) : Value := cond (quoB (nn (nuC (rhB_v6 n))) (nn (nuC (rhB_v10 n)))) (.agg (rpC (⟨(rhB_v24 n), (rhB_v25 n), (rhB_v26 n)⟩ : P3))) (.agg (rpC (⟨(rhB_v39 n), (rhB_v40 n), (rhB_v41 n)⟩ : P3)))
set_option maxRecDepth 100000 in
set_option maxHeartbeats 4000000 in
theorem rhB_p (n : Int) (hn : Ok6 n) : Reads Try.prog 67 [((b6C n), 22)] [.slice (some ⟨0, 32, none⟩) 32 32] (rhB_F n) := by
  unfold rhB_F
  cases h34 : (quoB (nn (nuC (rhB_v6 n))) (nn (nuC (rhB_v10 n))))
  · skip
    exact reads_of (n := 1) mixed Try.func67 ⟨rfl, by decide⟩ _ (rhB_1 n) rfl ⟨⟨⟨⟨⟨⟨⟨⟨⟨⟨⟨⟨⟨⟨⟨⟨⟨⟨⟨⟨⟨⟨⟨⟨⟨⟨⟨⟨⟨⟨⟨⟨⟨⟨⟨⟨⟨⟨⟨⟨⟨⟨⟨⟨⟨⟨⟨⟨⟨⟨⟨⟨⟨⟨⟨⟨⟨⟨⟨⟨⟨⟨⟨⟨⟨⟨⟨⟨⟨⟨⟨⟨⟨⟨⟨⟨⟨⟨⟨⟨⟨⟨⟨⟨⟨⟨⟨⟨⟨⟨⟨⟨⟨⟨⟨⟨⟨⟨⟨⟨⟨⟨⟨⟨⟨⟨⟨⟨⟨⟨⟨⟨⟨⟨⟨⟨⟨⟨⟨⟨⟨⟨⟨⟨⟨⟨⟨⟨⟨⟨⟨⟨⟨⟨⟨⟨⟨⟨⟨⟨⟨⟨⟨⟨⟨⟨⟨⟨⟨⟨⟨⟨⟨⟨⟨⟨⟨⟨⟨⟨⟨⟨⟨⟨⟨⟨⟨⟨⟨⟨⟨⟨⟨⟨⟨⟨⟨⟨⟨⟨⟨⟨⟨⟨⟨⟨⟨⟨⟨⟨⟨⟨⟨⟨⟨⟨⟨⟨⟨⟨⟨⟨⟨⟨⟨⟨⟨⟨⟨⟨⟨⟨⟨⟨⟨⟨⟨⟨⟨⟨⟨⟨⟨⟨⟨⟨⟨⟨⟨⟨⟨⟨⟨⟨⟨⟨⟨⟨⟨⟨⟨⟨⟨⟨⟨⟨⟨⟨⟨⟨⟨⟨⟨⟨⟨⟨⟨⟨⟨⟨⟨⟨⟨⟨⟨⟨⟨⟨⟨⟨⟨⟨⟨⟨⟨⟨⟨⟨⟨⟨⟨⟨⟨⟨⟨⟨⟨⟨⟨⟨⟨⟨⟨⟨⟨⟨⟨⟨⟨⟨⟨⟨⟨⟨⟨⟨⟨⟨⟨⟨⟨⟨⟨⟨⟨⟨⟨⟨⟨⟨⟨⟨⟨⟨⟨⟨⟨⟨⟨⟨⟨⟨⟨⟨⟨⟨⟨⟨⟨⟨⟨⟨⟨⟨⟨⟨⟨⟨⟨⟨⟨⟨⟨⟨⟨⟨⟨⟨⟨⟨⟨⟨⟨⟨⟨⟨⟨⟨⟨⟨⟨⟨⟨⟨⟨⟨⟨⟨⟨⟨⟨⟨⟨⟨⟨⟨⟨⟨⟨⟨⟨⟨⟨⟨⟨⟨⟨⟨⟨⟨⟨⟨⟨⟨⟨⟨⟨⟨⟨⟨⟨⟨⟨⟨⟨⟨⟨⟨⟨⟨⟨⟨⟨⟨⟨⟨⟨⟨⟨⟨⟨⟨⟨⟨⟨⟨⟨⟨⟨⟨⟨⟨⟨⟨⟨⟨⟨⟨⟨⟨⟨⟨⟨⟨⟨⟨⟨⟨⟨⟨⟨⟨⟨⟨⟨⟨⟨⟨⟨⟨⟨⟨⟨⟨⟨⟨⟨⟨⟨⟨⟨⟨⟨⟨⟨⟨⟨⟨⟨⟨⟨⟨⟨⟨⟨⟨⟨⟨⟨⟨trivial, trivial⟩, trivial⟩, trivial⟩, trivial⟩, trivial⟩, trivial⟩, ⟨by decide, by decide⟩⟩, trivial⟩, ⟨by decide, by decide⟩⟩, trivial⟩, trivial⟩, trivial⟩, trivial⟩, trivial⟩, trivial⟩, trivial⟩, trivial⟩, trivial⟩, ⟨by decide, by decide⟩⟩, trivial⟩, ⟨by decide, by decide⟩⟩, trivial⟩, trivial⟩, trivial⟩, trivial⟩, trivial⟩, trivial⟩, trivial⟩, trivial⟩, trivial⟩, ⟨by decide, by decide⟩⟩, trivial⟩, ⟨by decide, by decide⟩⟩, trivial⟩, trivial⟩, trivial⟩, trivial⟩, trivial⟩, trivial⟩, trivial⟩, trivial⟩, trivial⟩, ⟨by decide, by decide⟩⟩, trivial⟩, ⟨by decide, by decide⟩⟩, trivial⟩, trivial⟩, trivial⟩, trivial⟩, trivial⟩, trivial⟩, trivial⟩, trivial⟩, trivial⟩, ⟨by decide, by decide⟩⟩, trivial⟩, ⟨by decide, by decide⟩⟩, trivial⟩, trivial⟩, trivial⟩, trivial⟩, trivial⟩, trivial⟩, trivial⟩, trivial⟩, trivial⟩, ⟨by decide, by decide⟩⟩, trivial⟩, ⟨by decide, by decide⟩⟩, trivial⟩, trivial⟩, trivial⟩, trivial⟩, trivial⟩, trivial⟩, trivial⟩, trivial⟩, trivial⟩, ⟨by decide, by decide⟩⟩, trivial⟩, ⟨by decide, by decide⟩⟩, trivial⟩, trivial⟩, trivial⟩, trivial⟩, trivial⟩, trivial⟩, trivial⟩, trivial⟩, trivial⟩, ⟨by decide, by decide⟩⟩, trivial⟩, ⟨by decide, by decide⟩⟩, trivial⟩, trivial⟩, trivial⟩, trivial⟩, trivial⟩, trivial⟩, trivial⟩, trivial⟩, trivial⟩, ⟨by decide, by decide⟩⟩, trivial⟩, ⟨by decide, by decide⟩⟩, trivial⟩, trivial⟩, trivial⟩, trivial⟩, trivial⟩, trivial⟩, trivial⟩, trivial⟩, trivial⟩, ⟨by decide, by decide⟩⟩, trivial⟩, ⟨by decide, by decide⟩⟩, trivial⟩, trivial⟩, trivial⟩, trivial⟩, trivial⟩, trivial⟩, trivial⟩, trivial⟩, trivial⟩, ⟨by decide, by decide⟩⟩, trivial⟩, ⟨by decide, by decide⟩⟩, trivial⟩, trivial⟩, trivial⟩, trivial⟩, trivial⟩, trivial⟩, trivial⟩, trivial⟩, trivial⟩, ⟨by decide, by decide⟩⟩, trivial⟩, ⟨by decide, by decide⟩⟩, trivial⟩, trivial⟩, trivial⟩, trivial⟩, trivial⟩, trivial⟩, trivial⟩, trivial⟩, trivial⟩, ⟨by decide, by decide⟩⟩, trivial⟩, ⟨by decide, by decide⟩⟩, trivial⟩, trivial⟩, trivial⟩, trivial⟩, trivial⟩, trivial⟩, trivial⟩, trivial⟩, trivial⟩, ⟨by decide, by decide⟩⟩, trivial⟩, ⟨by decide, by decide⟩⟩, trivial⟩, trivial⟩, trivial⟩, trivial⟩, trivial⟩, trivial⟩, trivial⟩, trivial⟩, trivial⟩, ⟨by decide, by decide⟩⟩, trivial⟩, ⟨by decide, by decide⟩⟩, trivial⟩, trivial⟩, trivial⟩, trivial⟩, trivial⟩, trivial⟩, trivial⟩, trivial⟩, trivial⟩, ⟨by decide, by decide⟩⟩, trivial⟩, ⟨by decide, by decide⟩⟩, trivial⟩, trivial⟩, trivial⟩, trivial⟩, trivial⟩, trivial⟩, trivial⟩, trivial⟩, trivial⟩, ⟨by decide, by decide⟩⟩, trivial⟩, ⟨by decide, by decide⟩⟩, trivial⟩, trivial⟩, trivial⟩, trivial⟩, trivial⟩, trivial⟩, trivial⟩, trivial⟩, trivial⟩, ⟨by decide, by decide⟩⟩, trivial⟩, ⟨by decide, by decide⟩⟩, trivial⟩, trivial⟩, trivial⟩, trivial⟩, trivial⟩, trivial⟩, trivial⟩, trivial⟩, trivial⟩, ⟨by decide, by decide⟩⟩, trivial⟩, ⟨by decide, by decide⟩⟩, trivial⟩, trivial⟩, trivial⟩, trivial⟩, trivial⟩, trivial⟩, trivial⟩, trivial⟩, trivial⟩, ⟨by decide, by decide⟩⟩, trivial⟩, ⟨by decide, by decide⟩⟩, trivial⟩, trivial⟩, trivial⟩, trivial⟩, trivial⟩, trivial⟩, trivial⟩, trivial⟩, trivial⟩, ⟨by decide, by decide⟩⟩, trivial⟩, ⟨by decide, by decide⟩⟩, trivial⟩, trivial⟩, trivial⟩, trivial⟩, trivial⟩, trivial⟩, trivial⟩, trivial⟩, trivial⟩, ⟨by decide, by decide⟩⟩, trivial⟩, ⟨by decide, by decide⟩⟩, trivial⟩, trivial⟩, trivial⟩, trivial⟩, trivial⟩, trivial⟩, trivial⟩, trivial⟩, trivial⟩, ⟨by decide, by decide⟩⟩, trivial⟩, ⟨by decide, by decide⟩⟩, trivial⟩, trivial⟩, trivial⟩, trivial⟩, trivial⟩, trivial⟩, trivial⟩, trivial⟩, trivial⟩, ⟨by decide, by decide⟩⟩, trivial⟩, ⟨by decide, by decide⟩⟩, trivial⟩, trivial⟩, trivial⟩, trivial⟩, trivial⟩, trivial⟩, trivial⟩, trivial⟩, trivial⟩, ⟨by decide, by decide⟩⟩, trivial⟩, ⟨by decide, by decide⟩⟩, trivial⟩, trivial⟩, trivial⟩, trivial⟩, trivial⟩, trivial⟩, trivial⟩, trivial⟩, trivial⟩, ⟨by decide, by decide⟩⟩, trivial⟩, ⟨by decide, by decide⟩⟩, trivial⟩, trivial⟩, trivial⟩, trivial⟩, trivial⟩, trivial⟩, trivial⟩, trivial⟩, trivial⟩, ⟨by decide, by decide⟩⟩, trivial⟩, ⟨by decide, by decide⟩⟩, trivial⟩, trivial⟩, trivial⟩, trivial⟩, trivial⟩, trivial⟩, trivial⟩, trivial⟩, trivial⟩, ⟨by decide, by decide⟩⟩, trivial⟩, ⟨by decide, by decide⟩⟩, trivial⟩, trivial⟩, trivial⟩, trivial⟩, trivial⟩, trivial⟩, trivial⟩, trivial⟩, trivial⟩, ⟨by decide, by decide⟩⟩, trivial⟩, ⟨by decide, by decide⟩⟩, trivial⟩, trivial⟩, trivial⟩, trivial⟩, trivial⟩, trivial⟩, trivial⟩, trivial⟩, trivial⟩, ⟨by decide, by decide⟩⟩, trivial⟩, ⟨by decide, by decide⟩⟩, trivial⟩, trivial⟩, trivial⟩, trivial⟩, trivial⟩, trivial⟩, trivial⟩, trivial⟩, trivial⟩, ⟨by decide, by decide⟩⟩, trivial⟩, ⟨by decide, by decide⟩⟩, trivial⟩, trivial⟩, trivial⟩, trivial⟩, trivial⟩, trivial⟩, trivial⟩, trivial⟩, trivial⟩, ⟨by decide, by decide⟩⟩, trivial⟩, ⟨by decide, by decide⟩⟩, trivial⟩, trivial⟩, trivial⟩, trivial⟩, trivial⟩, trivial⟩, ⟨by decide, by decide⟩⟩, trivial⟩, (by decide)⟩, ⟨by decide, by decide⟩⟩, trivial⟩, trivial⟩, (is_lowV (fun j => byt_bd n (32 + j)))⟩, trivial⟩, trivial⟩, trivial⟩, one_nu _⟩, trivial⟩, ⟨rfl, ⟨by decide, by decide⟩⟩⟩, one_nu _⟩, trivial⟩, one_nu _⟩, trivial⟩, trivial⟩, trivial⟩, ⟨(nuD.is_enc (mod_bd _)), (nuD.is_enc (mod_bd _))⟩⟩, ⟨(nuD.is_enc (bd_iNum)), (nuD.is_enc (mod_bd _))⟩⟩, one_nu _⟩, trivial⟩, trivial⟩, ⟨(nuD.is_enc (mod_bd _)), (nuD.is_enc ⟨by decide, by decide⟩)⟩⟩, trivial⟩, trivial⟩, trivial⟩, ⟨(nuD.is_enc (bd_d)), (nuD.is_enc (bd_d))⟩⟩, ⟨(nuD.is_enc ⟨by decide, by decide⟩), (nuD.is_enc (mod_bd _))⟩⟩, ⟨(nuD.is_enc (mod_bd _)), (nuD.is_enc (mod_bd _))⟩⟩, one_nu _⟩, trivial⟩, (nuD.is_enc ⟨by decide, by decide⟩)⟩, trivial⟩, trivial⟩, ⟨(nuD.is_enc (mod_bd _)), (nuD.is_enc (bd_d))⟩⟩, ⟨(nuD.is_enc (mod_bd _)), (nuD.is_enc (mod_bd _))⟩⟩, trivial⟩, trivial⟩, ⟨(nuD.is_enc (mod_bd _)), (nuD.is_enc (bd_d))⟩⟩, ⟨(nuD.is_enc (mod_bd _)), (nuD.is_enc (mod_bd _))⟩⟩, one_nu _⟩, trivial⟩, trivial⟩, ⟨(nuD.is_enc (mod_bd _)), (nuD.is_enc (mod_bd _))⟩⟩, trivial⟩, trivial⟩, ⟨trivial, h34⟩⟩, one_nu _⟩, trivial⟩, trivial⟩, (nuD.is_enc ⟨by decide, by decide⟩)⟩, one_nu _⟩, trivial⟩, trivial⟩, trivial⟩, trivial⟩, ⟨(nuD.is_enc (bd_quoV _ _)), (nuD.is_enc (mod_bd _))⟩⟩, (nuD.is_enc (mod_bd _))⟩, (nuD.is_enc (bd_absR _ (bd_nn (mod_bd _))))⟩, one_nu _⟩, trivial⟩, one_nu _⟩, trivial⟩, trivial⟩, ⟨(nuD.is_enc (bd_d)), (nuD.is_enc ⟨by decide, by decide⟩)⟩⟩, one_nu _⟩, trivial⟩, trivial⟩, trivial⟩, ⟨(nuD.is_enc (mod_bd _)), (nuD.is_enc ⟨by decide, by decide⟩)⟩⟩, ⟨(nuD.is_enc (mod_bd _)), (nuD.is_enc (mod_bd _))⟩⟩, trivial⟩, trivial⟩, ⟨(nuD.is_enc (mod_bd _)), (nuD.is_enc (mod_bd _))⟩⟩, ⟨(nuD.is_enc (mod_bd _)), (nuD.is_enc (mod_bd _))⟩⟩, trivial⟩, ⟨(nuD.is_enc (mod_bd _)), (nuD.is_enc (mod_bd _))⟩⟩, one_nu _⟩, ⟨rfl, ⟨by decide, by decide⟩⟩⟩, trivial⟩, trivial⟩, ⟨(nuD.is_enc (mod_bd _)), (nuD.is_enc (mod_bd _))⟩⟩, ⟨(nuD.is_enc ⟨by decide, by decide⟩), (nuD.is_enc (mod_bd _))⟩⟩, one_nu _⟩, trivial⟩, trivial⟩, ⟨(nuD.is_enc (mod_bd _)), (nuD.is_enc (bd_mNum))⟩⟩, one_nu _⟩, trivial⟩, trivial⟩, trivial⟩, ⟨(nuD.is_enc (mod_bd _)), (nuD.is_enc (mod_bd _))⟩⟩, ⟨(nuD.is_enc ⟨by decide, by decide⟩), (nuD.is_enc (mod_bd _))⟩⟩, one_nu _⟩, trivial⟩, trivial⟩, trivial⟩, ⟨(nuD.is_enc (mod_bd _)), (nuD.is_enc (mod_bd _))⟩⟩, ⟨(nuD.is_enc ⟨by decide, by decide⟩), (nuD.is_enc (mod_bd _))⟩⟩, one_nu _⟩, trivial⟩, trivial⟩, ⟨(nuD.is_enc (mod_bd _)), (nuD.is_enc (mod_bd _))⟩⟩, trivial⟩, trivial⟩, ⟨(nuD.is_enc (mod_bd _)), (nuD.is_enc (mod_bd _))⟩⟩, trivial⟩, trivial⟩, ⟨(nuD.is_enc (mod_bd _)), (nuD.is_enc (mod_bd _))⟩⟩, trivial⟩, rpC_one _⟩
  · skip
    exact reads_of (n := 1) mixed Try.func67 ⟨rfl, by decide⟩ _ (rhB_0 n) rfl ⟨⟨⟨⟨⟨⟨⟨⟨⟨⟨⟨⟨⟨⟨⟨⟨⟨⟨⟨⟨⟨⟨⟨⟨⟨⟨⟨⟨⟨⟨⟨⟨⟨⟨⟨⟨⟨⟨⟨⟨⟨⟨⟨⟨⟨⟨⟨⟨⟨⟨⟨⟨⟨⟨⟨⟨⟨⟨⟨⟨⟨⟨⟨⟨⟨⟨⟨⟨⟨⟨⟨⟨⟨⟨⟨⟨⟨⟨⟨⟨⟨⟨⟨⟨⟨⟨⟨⟨⟨⟨⟨⟨⟨⟨⟨⟨⟨⟨⟨⟨⟨⟨⟨⟨⟨⟨⟨⟨⟨⟨⟨⟨⟨⟨⟨⟨⟨⟨⟨⟨⟨⟨⟨⟨⟨⟨⟨⟨⟨⟨⟨⟨⟨⟨⟨⟨⟨⟨⟨⟨⟨⟨⟨⟨⟨⟨⟨⟨⟨⟨⟨⟨⟨⟨⟨⟨⟨⟨⟨⟨⟨⟨⟨⟨⟨⟨⟨⟨⟨⟨⟨⟨⟨⟨⟨⟨⟨⟨⟨⟨⟨⟨⟨⟨⟨⟨⟨⟨⟨⟨⟨⟨⟨⟨⟨⟨⟨⟨⟨⟨⟨⟨⟨⟨⟨⟨⟨⟨⟨⟨⟨⟨⟨⟨⟨⟨⟨⟨⟨⟨⟨⟨⟨⟨⟨⟨⟨⟨⟨⟨⟨⟨⟨⟨⟨⟨⟨⟨⟨⟨⟨⟨⟨⟨⟨⟨⟨⟨⟨⟨⟨⟨⟨⟨⟨⟨⟨⟨⟨⟨⟨⟨⟨⟨⟨⟨⟨⟨⟨⟨⟨⟨⟨⟨⟨⟨⟨⟨⟨⟨⟨⟨⟨⟨⟨⟨⟨⟨⟨⟨⟨⟨⟨⟨⟨⟨⟨⟨⟨⟨⟨⟨⟨⟨⟨⟨⟨⟨⟨⟨⟨⟨⟨⟨⟨⟨⟨⟨⟨⟨⟨⟨⟨⟨⟨⟨⟨⟨⟨⟨⟨⟨⟨⟨⟨⟨⟨⟨⟨⟨⟨⟨⟨⟨⟨⟨⟨⟨⟨⟨⟨⟨⟨⟨⟨⟨⟨⟨⟨⟨⟨⟨⟨⟨⟨⟨⟨⟨⟨⟨⟨⟨⟨⟨⟨⟨⟨⟨⟨⟨⟨⟨⟨⟨⟨⟨⟨⟨⟨⟨⟨⟨⟨⟨⟨⟨⟨⟨⟨⟨⟨⟨⟨⟨⟨⟨⟨⟨⟨⟨⟨⟨⟨⟨⟨⟨⟨⟨⟨⟨⟨⟨⟨⟨⟨⟨⟨⟨⟨⟨⟨⟨⟨⟨⟨⟨⟨⟨⟨⟨⟨⟨⟨⟨⟨⟨⟨⟨⟨⟨⟨⟨⟨⟨⟨⟨⟨⟨⟨⟨⟨⟨⟨⟨⟨⟨⟨⟨⟨⟨⟨⟨⟨⟨⟨⟨⟨⟨⟨⟨⟨⟨⟨⟨⟨⟨⟨⟨⟨⟨⟨⟨trivial, trivial⟩, trivial⟩, trivial⟩, trivial⟩, trivial⟩, trivial⟩, ⟨by decide, by decide⟩⟩, trivial⟩, ⟨by decide, by decide⟩⟩, trivial⟩, trivial⟩, trivial⟩, trivial⟩, trivial⟩, trivial⟩, trivial⟩, trivial⟩, trivial⟩, ⟨by decide, by decide⟩⟩, trivial⟩, ⟨by decide, by decide⟩⟩, trivial⟩, trivial⟩, trivial⟩, trivial⟩, trivial⟩, trivial⟩, trivial⟩, trivial⟩, trivial⟩, ⟨by decide, by decide⟩⟩, trivial⟩, ⟨by decide, by decide⟩⟩, trivial⟩, trivial⟩, trivial⟩, trivial⟩, trivial⟩, trivial⟩, trivial⟩, trivial⟩, trivial⟩, ⟨by decide, by decide⟩⟩, trivial⟩, ⟨by decide, by decide⟩⟩, trivial⟩, trivial⟩, trivial⟩, trivial⟩, trivial⟩, trivial⟩, trivial⟩, trivial⟩, trivial⟩, ⟨by decide, by decide⟩⟩, trivial⟩, ⟨by decide, by decide⟩⟩, trivial⟩, trivial⟩, trivial⟩, trivial⟩, trivial⟩, trivial⟩, trivial⟩, trivial⟩, trivial⟩, ⟨by decide, by decide⟩⟩, trivial⟩, ⟨by decide, by decide⟩⟩, trivial⟩, trivial⟩, trivial⟩, trivial⟩, trivial⟩, trivial⟩, trivial⟩, trivial⟩, trivial⟩, ⟨by decide, by decide⟩⟩, trivial⟩, ⟨by decide, by decide⟩⟩, trivial⟩, trivial⟩, trivial⟩, trivial⟩, trivial⟩, trivial⟩, trivial⟩, trivial⟩, trivial⟩, ⟨by decide, by decide⟩⟩, trivial⟩, ⟨by decide, by decide⟩⟩, trivial⟩, trivial⟩, trivial⟩, trivial⟩, trivial⟩, trivial⟩, trivial⟩, trivial⟩, trivial⟩, ⟨by decide, by decide⟩⟩, trivial⟩, ⟨by decide, by decide⟩⟩, trivial⟩, trivial⟩, trivial⟩, trivial⟩, trivial⟩, trivial⟩, trivial⟩, trivial⟩, trivial⟩, ⟨by decide, by decide⟩⟩, trivial⟩, ⟨by decide, by decide⟩⟩, trivial⟩, trivial⟩, trivial⟩, trivial⟩, trivial⟩, trivial⟩, trivial⟩, trivial⟩, trivial⟩, ⟨by decide, by decide⟩⟩, trivial⟩, ⟨by decide, by decide⟩⟩, trivial⟩, trivial⟩, trivial⟩, trivial⟩, trivial⟩, trivial⟩, trivial⟩, trivial⟩, trivial⟩, ⟨by decide, by decide⟩⟩, trivial⟩, ⟨by decide, by decide⟩⟩, trivial⟩, trivial⟩, trivial⟩, trivial⟩, trivial⟩, trivial⟩, trivial⟩, trivial⟩, trivial⟩, ⟨by decide, by decide⟩⟩, trivial⟩, ⟨by decide, by decide⟩⟩, trivial⟩, trivial⟩, trivial⟩, trivial⟩, trivial⟩, trivial⟩, trivial⟩, trivial⟩, trivial⟩, ⟨by decide, by decide⟩⟩, trivial⟩, ⟨by decide, by decide⟩⟩, trivial⟩, trivial⟩, trivial⟩, trivial⟩, trivial⟩, trivial⟩, trivial⟩, trivial⟩, trivial⟩, ⟨by decide, by decide⟩⟩, trivial⟩, ⟨by decide, by decide⟩⟩, trivial⟩, trivial⟩, trivial⟩, trivial⟩, trivial⟩, trivial⟩, trivial⟩, trivial⟩, trivial⟩, ⟨by decide, by decide⟩⟩, trivial⟩, ⟨by decide, by decide⟩⟩, trivial⟩, trivial⟩, trivial⟩, trivial⟩, trivial⟩, trivial⟩, trivial⟩, trivial⟩, trivial⟩, ⟨by decide, by decide⟩⟩, trivial⟩, ⟨by decide, by decide⟩⟩, trivial⟩, trivial⟩, trivial⟩, trivial⟩, trivial⟩, trivial⟩, trivial⟩, trivial⟩, trivial⟩, ⟨by decide, by decide⟩⟩, trivial⟩, ⟨by decide, by decide⟩⟩, trivial⟩, trivial⟩, trivial⟩, trivial⟩, trivial⟩, trivial⟩, trivial⟩, trivial⟩, trivial⟩, ⟨by decide, by decide⟩⟩, trivial⟩, ⟨by decide, by decide⟩⟩, trivial⟩, trivial⟩, trivial⟩, trivial⟩, trivial⟩, trivial⟩, trivial⟩, trivial⟩, trivial⟩, ⟨by decide, by decide⟩⟩, trivial⟩, ⟨by decide, by decide⟩⟩, trivial⟩, trivial⟩, trivial⟩, trivial⟩, trivial⟩, trivial⟩, trivial⟩, trivial⟩, trivial⟩, ⟨by decide, by decide⟩⟩, trivial⟩, ⟨by decide, by decide⟩⟩, trivial⟩, trivial⟩, trivial⟩, trivial⟩, trivial⟩, trivial⟩, trivial⟩, trivial⟩, trivial⟩, ⟨by decide, by decide⟩⟩, trivial⟩, ⟨by decide, by decide⟩⟩, trivial⟩, trivial⟩, trivial⟩, trivial⟩, trivial⟩, trivial⟩, trivial⟩, trivial⟩, trivial⟩, ⟨by decide, by decide⟩⟩, trivial⟩, ⟨by decide, by decide⟩⟩, trivial⟩, trivial⟩, trivial⟩, trivial⟩, trivial⟩, trivial⟩, trivial⟩, trivial⟩, trivial⟩, ⟨by decide, by decide⟩⟩, trivial⟩, ⟨by decide, by decide⟩⟩, trivial⟩, trivial⟩, trivial⟩, trivial⟩, trivial⟩, trivial⟩, trivial⟩, trivial⟩, trivial⟩, ⟨by decide, by decide⟩⟩, trivial⟩, ⟨by decide, by decide⟩⟩, trivial⟩, trivial⟩, trivial⟩, trivial⟩, trivial⟩, trivial⟩, trivial⟩, trivial⟩, trivial⟩, ⟨by decide, by decide⟩⟩, trivial⟩, ⟨by decide, by decide⟩⟩, trivial⟩, trivial⟩, trivial⟩, trivial⟩, trivial⟩, trivial⟩, trivial⟩, trivial⟩, trivial⟩, ⟨by decide, by decide⟩⟩, trivial⟩, ⟨by decide, by decide⟩⟩, trivial⟩, trivial⟩, trivial⟩, trivial⟩, trivial⟩, trivial⟩, trivial⟩, trivial⟩, trivial⟩, ⟨by decide, by decide⟩⟩, trivial⟩, ⟨by decide, by decide⟩⟩, trivial⟩, trivial⟩, trivial⟩, trivial⟩, trivial⟩, trivial⟩, trivial⟩, trivial⟩, trivial⟩, ⟨by decide, by decide⟩⟩, trivial⟩, ⟨by decide, by decide⟩⟩, trivial⟩, trivial⟩, trivial⟩, trivial⟩, trivial⟩, trivial⟩, trivial⟩, trivial⟩, trivial⟩, ⟨by decide, by decide⟩⟩, trivial⟩, ⟨by decide, by decide⟩⟩, trivial⟩, trivial⟩, trivial⟩, trivial⟩, trivial⟩, trivial⟩, trivial⟩, trivial⟩, trivial⟩, ⟨by decide, by decide⟩⟩, trivial⟩, ⟨by decide, by decide⟩⟩, trivial⟩, trivial⟩, trivial⟩, trivial⟩, trivial⟩, trivial⟩, trivial⟩, trivial⟩, trivial⟩, ⟨by decide, by decide⟩⟩, trivial⟩, ⟨by decide, by decide⟩⟩, trivial⟩, trivial⟩, trivial⟩, trivial⟩, trivial⟩, trivial⟩, ⟨by decide, by decide⟩⟩, trivial⟩, (by decide)⟩, ⟨by decide, by decide⟩⟩, trivial⟩, trivial⟩, (is_lowV (fun j => byt_bd n (32 + j)))⟩, trivial⟩, trivial⟩, trivial⟩, one_nu _⟩, trivial⟩, ⟨rfl, ⟨by decide, by decide⟩⟩⟩, one_nu _⟩, trivial⟩, one_nu _⟩, trivial⟩, trivial⟩, trivial⟩, ⟨(nuD.is_enc (mod_bd _)), (nuD.is_enc (mod_bd _))⟩⟩, ⟨(nuD.is_enc (bd_iNum)), (nuD.is_enc (mod_bd _))⟩⟩, one_nu _⟩, trivial⟩, trivial⟩, ⟨(nuD.is_enc (mod_bd _)), (nuD.is_enc ⟨by decide, by decide⟩)⟩⟩, trivial⟩, trivial⟩, trivial⟩, ⟨(nuD.is_enc (bd_d)), (nuD.is_enc (bd_d))⟩⟩, ⟨(nuD.is_enc ⟨by decide, by decide⟩), (nuD.is_enc (mod_bd _))⟩⟩, ⟨(nuD.is_enc (mod_bd _)), (nuD.is_enc (mod_bd _))⟩⟩, one_nu _⟩, trivial⟩, (nuD.is_enc ⟨by decide, by decide⟩)⟩, trivial⟩, trivial⟩, ⟨(nuD.is_enc (mod_bd _)), (nuD.is_enc (bd_d))⟩⟩, ⟨(nuD.is_enc (mod_bd _)), (nuD.is_enc (mod_bd _))⟩⟩, trivial⟩, trivial⟩, ⟨(nuD.is_enc (mod_bd _)), (nuD.is_enc (bd_d))⟩⟩, ⟨(nuD.is_enc (mod_bd _)), (nuD.is_enc (mod_bd _))⟩⟩, one_nu _⟩, trivial⟩, trivial⟩, ⟨(nuD.is_enc (mod_bd _)), (nuD.is_enc (mod_bd _))⟩⟩, trivial⟩, trivial⟩, ⟨trivial, h34⟩⟩, one_nu _⟩, trivial⟩, trivial⟩, (nuD.is_enc ⟨by decide, by decide⟩)⟩, one_nu _⟩, trivial⟩, trivial⟩, trivial⟩, trivial⟩, ⟨(nuD.is_enc (bd_d)), (nuD.is_enc ⟨by decide, by decide⟩)⟩⟩, one_nu _⟩, trivial⟩, trivial⟩, trivial⟩, ⟨(nuD.is_enc (mod_bd _)), (nuD.is_enc ⟨by decide, by decide⟩)⟩⟩, ⟨(nuD.is_enc (mod_bd _)), (nuD.is_enc (mod_bd _))⟩⟩, trivial⟩, trivial⟩, ⟨(nuD.is_enc (mod_bd _)), (nuD.is_enc (mod_bd _))⟩⟩, ⟨(nuD.is_enc (mod_bd _)), (nuD.is_enc (mod_bd _))⟩⟩, trivial⟩, ⟨(nuD.is_enc (mod_bd _)), (nuD.is_enc (mod_bd _))⟩⟩, one_nu _⟩, ⟨rfl, ⟨by decide, by decide⟩⟩⟩, trivial⟩, trivial⟩, ⟨(nuD.is_enc (bd_quoV _ _)), (nuD.is_enc (mod_bd _))⟩⟩, ⟨(nuD.is_enc ⟨by decide, by decide⟩), (nuD.is_enc (mod_bd _))⟩⟩, one_nu _⟩, trivial⟩, trivial⟩, ⟨(nuD.is_enc (mod_bd _)), (nuD.is_enc (bd_mNum))⟩⟩, one_nu _⟩, trivial⟩, trivial⟩, trivial⟩, ⟨(nuD.is_enc (bd_quoV _ _)), (nuD.is_enc (bd_quoV _ _))⟩⟩, ⟨(nuD.is_enc ⟨by decide, by decide⟩), (nuD.is_enc (mod_bd _))⟩⟩, one_nu _⟩, trivial⟩, trivial⟩, trivial⟩, ⟨(nuD.is_enc (bd_quoV _ _)), (nuD.is_enc (bd_quoV _ _))⟩⟩, ⟨(nuD.is_enc ⟨by decide, by decide⟩), (nuD.is_enc (mod_bd _))⟩⟩, one_nu _⟩, trivial⟩, trivial⟩, ⟨(nuD.is_enc (mod_bd _)), (nuD.is_enc (mod_bd _))⟩⟩, trivial⟩, trivial⟩, ⟨(nuD.is_enc (mod_bd _)), (nuD.is_enc (mod_bd _))⟩⟩, trivial⟩, trivial⟩, ⟨(nuD.is_enc (mod_bd _)), (nuD.is_enc (mod_bd _))⟩⟩, trivial⟩, rpC_one _⟩
def rhB_S (n : Int) : Value := cond (quoB ((rhB_u6 n)) ((rhB_u10 n))) (.agg (rpC (⟨(rhB_u24 n), (rhB_u25 n), (rhB_u26 n)⟩ : P3))) (.agg (rpC (⟨(rhB_u39 n), (rhB_u40 n), (rhB_u41 n)⟩ : P3)))
theorem rhB_e (n : Int) (hn : Ok6 n) : rhB_F n = rhB_S n := by
  unfold rhB_F rhB_S
  try simp only [nm_mod, nn_mod, nm_inv, nn_inv, nm_d, nn_d, nm_1, nn_1, nm_root, nn_quo, db_lowB, nn_i, nn_absm, nn_2, nn_mN, nn_quoV, rhB_x0 n hn, rhB_x1 n hn, rhB_x2 n hn, rhB_x3 n hn, rhB_x4 n hn, rhB_x5 n hn, rhB_x6 n hn, rhB_x7 n hn, rhB_x8 n hn, rhB_x9 n hn, rhB_x10 n hn, rhB_x11 n hn, rhB_x12 n hn, rhB_x13 n hn, rhB_x14 n hn, rhB_x15 n hn, rhB_x16 n hn, rhB_x17 n hn, rhB_x18 n hn, rhB_x19 n hn, rhB_x20 n hn, rhB_x21 n hn, rhB_x22 n hn, rhB_x23 n hn, rhB_x24 n hn, rhB_x25 n hn, rhB_x26 n hn, rhB_x27 n hn, rhB_x28 n hn, rhB_x29 n hn, rhB_x30 n hn, rhB_x31 n hn, rhB_x32 n hn, rhB_x33 n hn, rhB_x34 n hn, rhB_x35 n hn, rhB_x36 n hn, rhB_x37 n hn, rhB_x38 n hn, rhB_x39 n hn, rhB_x40 n hn, rhB_x41 n hn]
  try simp only [rhB_w0 n hn, rhB_w1 n hn, rhB_w2 n hn, rhB_w3 n hn, rhB_w4 n hn, rhB_w5 n hn, rhB_w6 n hn, rhB_w7 n hn, rhB_w8 n hn, rhB_w9 n hn, rhB_w10 n hn, rhB_w11 n hn, rhB_w12 n hn, rhB_w13 n hn, rhB_w14 n hn, rhB_w15 n hn, rhB_w16 n hn, rhB_w17 n hn, rhB_w18 n hn, rhB_w19 n hn, rhB_w20 n hn, rhB_w21 n hn, rhB_w22 n hn, rhB_w23 n hn, rhB_w24 n hn, rhB_w25 n hn, rhB_w26 n hn, rhB_w27 n hn, rhB_w28 n hn, rhB_w29 n hn, rhB_w30 n hn, rhB_w31 n hn, rhB_w32 n hn, rhB_w33 n hn, rhB_w34 n hn, rhB_w35 n hn, rhB_w36 n hn, rhB_w37 n hn, rhB_w38 n hn, rhB_w39 n hn, rhB_w40 n hn, rhB_w41 n hn]
theorem quoV_m (a b : Int) : fp (quoV (a % pr) (b % pr)) = rtE (fp a) (fp b) := by rw [fp_quoV _ _ (mod_bd a) (mod_bd b), fp_mod, fp_mod]
theorem quoB_m (a b : Int) : quoB (a % pr) (b % pr) = rbE (fp a) (fp b) := by rw [quoB_E _ _ (mod_bd a) (mod_bd b), fp_mod, fp_mod]
def rhalf (m : Int) : P3 := ⟨((w0 (fp m) * w3 (fp m)).val : Int), ((w2 (fp m) * w1 (fp m)).val : Int), ((w1 (fp m) * w3 (fp m)).val : Int)⟩
theorem nu3_rhalf (m : Int) : Nu3 (rhalf m) := ⟨fval_bd _, fval_bd _, fval_bd _⟩
theorem rhalf_rep (m : Int) : RepN (rhalf m) (halfE (fp m)) := by
  refine ⟨nu3_rhalf m, ?_⟩
  show Rep3 (fp _) (fp _) (fp _) _
  unfold rhalf
  rw [fp_surj, fp_surj, fp_surj]
  exact (half_rep _).three
theorem rp3m (x y z : Int) : rpC (⟨x % pr, y % pr, z % pr⟩ : P3) = rpC (⟨((fp x).val : Int), ((fp y).val : Int), ((fp z).val : Int)⟩ : P3) := by rw [mod_fp, mod_fp y, mod_fp z]
theorem rhA_eq (n : Int) : rhA_S n = .agg (rpC (rhalf (lowF (byt n)))) := by
  unfold rhA_S
  delta rhA_u0 rhA_u1 rhA_u2 rhA_u3 rhA_u4 rhA_u5 rhA_u6 rhA_u7 rhA_u8 rhA_u9 rhA_u10 rhA_u11 rhA_u12 rhA_u13 rhA_u14 rhA_u15 rhA_u16 rhA_u17 rhA_u18 rhA_u19 rhA_u20 rhA_u21 rhA_u22 rhA_u23 rhA_u24 rhA_u25 rhA_u26 rhA_u27 rhA_u28 rhA_u29 rhA_u30 rhA_u31 rhA_u32 rhA_u33 rhA_u34 rhA_u35 rhA_u36 rhA_u37 rhA_u38 rhA_u39 rhA_u40 rhA_u41
  simp only [db_lowA, rp3m, fp_mod, fp_absR, fp_mul, fp_add, fp_sub, fp_neg, quoV_m, quoB_m, fp_one, fp_i, fp_m, fp_2, fp_dd, vneg]
  unfold rhalf w0 w1 w2 w3 hNn hC hS hV hU hR
  cases rbE ((iE * (fp (lowF (byt n)) * fp (lowF (byt n))) + 1) * (1 - dE * dE)) (-(1 + iE * (fp (lowF (byt n)) * fp (lowF (byt n))) * dE) * (iE * (fp (lowF (byt n)) * fp (lowF (byt n))) + dE)) with
  | true => simp only [cT]
  | false => simp only [cF]
theorem rhB_eq (n : Int) : rhB_S n = .agg (rpC (rhalf (lowF (fun j => byt n (32 + j))))) := by
  unfold rhB_S
  delta rhB_u0 rhB_u1 rhB_u2 rhB_u3 rhB_u4 rhB_u5 rhB_u6 rhB_u7 rhB_u8 rhB_u9 rhB_u10 rhB_u11 rhB_u12 rhB_u13 rhB_u14 rhB_u15 rhB_u16 rhB_u17 rhB_u18 rhB_u19 rhB_u20 rhB_u21 rhB_u22 rhB_u23 rhB_u24 rhB_u25 rhB_u26 rhB_u27 rhB_u28 rhB_u29 rhB_u30 rhB_u31 rhB_u32 rhB_u33 rhB_u34 rhB_u35 rhB_u36 rhB_u37 rhB_u38 rhB_u39 rhB_u40 rhB_u41
  simp only [db_lowB, rp3m, fp_mod, fp_absR, fp_mul, fp_add, fp_sub, fp_neg, quoV_m, quoB_m, fp_one, fp_i, fp_m, fp_2, fp_dd, vneg]
  unfold rhalf w0 w1 w2 w3 hNn hC hS hV hU hR
  generalize lowF (fun j => byt n (32 + j)) = m
  cases rbE ((iE * (fp m * fp m) + 1) * (1 - dE * dE)) (-(1 + iE * (fp m * fp m) * dE) * (iE * (fp m * fp m) + dE)) with
  | true => simp only [cT]
  | false => simp only [cF]
theorem reads1 {f : FuncId} {cs : Array Value} {t : TypeId} {o l c : Nat} {v : Value} (h : Reads Try.prog f [(cs, t)] [.slice (some ⟨0, o, none⟩) l c] v) {mem : List (Array Value × TypeId)} {i : Nat} (hm : mem[i]? = some (cs, t)) {w : World} {β : Nat → Nat} (hw : Has w β mem) : Calls Try.prog f ([Value.slice (some ⟨i, o, none⟩) l c].map (rn β)).toArray w (fun e w' => e = .returned v ∧ Below w.heap.size w w') :=
  h w (fun _ => β i) (fun j x hx => by
    cases j with
    | zero => simp only [List.getElem?_cons_zero, Option.some.injEq] at hx; subst hx; exact hw i _ hm
    | succ j => simp at hx)
theorem is_b6 {cs : Array Value} (h : b6D.is cs) : ∃ n : Int, Ok6 n ∧ cs = b6C n := h
theorem RHalfA_c (n : Int) (hn : Ok6 n) : Reads Try.prog 67 [(b6C n, 22)] [.slice (some ⟨0, 0, none⟩) 32 64] (.agg (rpC (rhalf (lowF (byt n))))) := by
  have := rhA_p n hn
  rwa [rhA_e n hn, rhA_eq] at this
theorem RHalfB_c (n : Int) (hn : Ok6 n) : Reads Try.prog 67 [(b6C n, 22)] [.slice (some ⟨0, 32, none⟩) 32 32] (.agg (rpC (rhalf (lowF (fun j => byt n (32 + j)))))) := by
  have := rhB_p n hn
  rwa [rhB_e n hn, rhB_eq] at this
def qHalf : Entry Try.prog where
  f := 67
  g := fun mem xs => match xs with
    | [.slice (some ⟨i, o, none⟩) l c] => (match mem[i]? with
      | some (cs, t) => if o = 0 ∧ l = 32 ∧ c = 64 then some (.agg (rpC (rhalf (lowF (byt (db cs))))), t = 22 ∧ b6D.is cs) else if o = 32 ∧ l = 32 ∧ c = 32 then some (.agg (rpC (rhalf (lowF (fun j => byt (db cs) (32 + j))))), t = 22 ∧ b6D.is cs) else none
      | none => none)
    | _ => none
  ok := fun mem xs v c e hc w β hw => by
    split at e
    · rename_i i o l c' 
      split at e
      · rename_i cs t hm
        split at e
        · rename_i h0
          obtain ⟨rfl, rfl, rfl⟩ := h0
          simp only [Option.some.injEq, Prod.mk.injEq] at e
          obtain ⟨rfl, rfl⟩ := e
          obtain ⟨rfl, hc⟩ := hc
          obtain ⟨n, hn, rfl⟩ := is_b6 hc
          rw [db_b6C n hn]
          exact reads1 (RHalfA_c n hn) hm hw
        · split at e
          · rename_i h0
            obtain ⟨rfl, rfl, rfl⟩ := h0
            simp only [Option.some.injEq, Prod.mk.injEq] at e
            obtain ⟨rfl, rfl⟩ := e
            obtain ⟨rfl, hc⟩ := hc
            obtain ⟨n, hn, rfl⟩ := is_b6 hc
            rw [db_b6C n hn]
            exact reads1 (RHalfB_c n hn) hm hw
          · cases e
      · cases e
    · cases e
  call := call_of Try.func67 (by kernel_rfl) (by kernel_rfl)
def tab22 : List (Entry Try.prog) := qHalf :: pMap :: tab18
theorem dr_rhalf (m : Int) : dr (rpC (rhalf m)) = rhalf m := dr_rpC _ (nu3_rhalf m)
def rmp_h (i : Nat) : Hn := if i = 1 then ⟨5, [], [], [], []⟩ else ⟨0, [], [], [], []⟩
theorem rmp_0 (n : Int) : evF (yty.en tab22) rmp_h Try.f26 [.agg (b6C n)] [] = some (.agg (rpC (rab_R (dr (rpC (rhalf (lowF (byt (db (b6C n))))))) (dr (rpC (rhalf (lowF (fun j => byt (db (b6C n)) (32 + j)))))) dN)), ((((((True ∧ True) ∧ (22 = 22 ∧ b6D.is (b6C n))) ∧ True) ∧ (22 = 22 ∧ b6D.is (b6C n))) ∧ (rpD.is (rpC (rhalf (lowF (byt (db (b6C n)))))) ∧ rpD.is (rpC (rhalf (lowF (fun j => byt (db (b6C n)) (32 + j))))))) ∧ ((rpC (rab_R (dr (rpC (rhalf (lowF (byt (db (b6C n))))))) (dr (rpC (rhalf (lowF (fun j => byt (db (b6C n)) (32 + j)))))) dN)).all (fun v => v.oneCell') = true))) := by kernel_rfl
def rmp_F (n : Int) : Value := .agg (rpC (rab_R (dr (rpC (rhalf (lowF (byt (db (b6C n))))))) (dr (rpC (rhalf (lowF (fun j => byt (db (b6C n)) (32 + j)))))) dN))
set_option maxHeartbeats 4000000 in
theorem rmp_p (n : Int) (hn : Ok6 n) : Pure Try.prog 26 #[.agg (b6C n)] (rmp_F n) := by
  unfold rmp_F
  exact pure_of mixed Try.func26 _ (rmp_0 n) rfl ⟨⟨⟨⟨⟨⟨trivial, trivial⟩, ⟨rfl, (b6D.is_enc (hn))⟩⟩, trivial⟩, ⟨rfl, (b6D.is_enc (hn))⟩⟩, ⟨(rpD.is_enc (nu3_rhalf _)), (rpD.is_enc (nu3_rhalf _))⟩⟩, rpC_one _⟩
def rmp_R (n : Int) : P3 := rab_R ((rhalf (lowF (byt (n))))) ((rhalf (lowF (fun j => byt (n) (32 + j))))) dN
def rmp_S (n : Int) : Value := .agg (rpC (rmp_R n))
theorem rmp_e (n : Int) (hn : Ok6 n) : rmp_F n = rmp_S n := by
  unfold rmp_F rmp_S rmp_R
  try simp only [nm_mod, nn_mod, nm_inv, nn_inv, nm_d, nn_d, nm_1, nn_1, nm_root, nn_quo, db_b6C _ hn, dr_rhalf]
def rmapI (n : Int) : P3 := rab_R (rhalf (lowF (byt n))) (rhalf (lowF (fun j => byt n (32 + j)))) dN
theorem nu3_rmap (n : Int) : Nu3 (rmapI n) := nu3_ab _ _ _
theorem RMap_c (n : Int) (hn : Ok6 n) : Pure Try.prog 26 #[.agg (b6C n)] (.agg (rpC (rmapI n))) := by
  have h := rmp_p n hn
  rwa [rmp_e n hn] at h
def qMap : Entry Try.prog := ent1 Try.func26 (by kernel_rfl) (by kernel_rfl) b6D (fun n : Int => .agg (rpC (rmapI n))) RMap_c
theorem rmap_rep (n : Int) : RepN (rmapI n) (mapE n) := by
  rw [mapE_F]
  exact repn_add (rhalf_rep _) (rhalf_rep _)
def tab23 : List (Entry Try.prog) := qMap :: tab22
theorem dr_rmap (n : Int) : dr (rpC (rmapI n)) = rmapI n := dr_rpC _ (nu3_rmap n)
end Go.Proofs.Ytbjllhcjbblojab
