import Derived.Test.YtlbofcgjdbfenabRiL1
import Derived.Test.YtlbofcgjdbfenabRiTAll
set_option linter.unusedSimpArgs false
set_option linter.unusedVariables false
namespace Go.Proofs.Ytlbofcgjdbfenab
open Go.RowKit Go.Ev
theorem one_b6 (n : Int) : (b6C n).all (fun v => v.oneCell') = true := by simp [b6C, Value.oneCell']
/-- 64 bytes are some number's. -/
theorem bys6 {f : Nat → Int} (h : ∀ j, 0 ≤ f j ∧ f j < 256) : ((List.range 64).map fun j => Value.int .u8 (f j)).toArray = b6C (numL ((List.range 64).map f)) ∧ Ok6 (numL ((List.range 64).map f)) ∧ ∀ j, j < 64 → byt (numL ((List.range 64).map f)) j = f j := by
  have hb : ∀ x ∈ (List.range 64).map f, 0 ≤ x ∧ x < 256 := fun x hx => by
    obtain ⟨j, _, rfl⟩ := List.mem_map.1 hx
    exact h j
  have hl : ((List.range 64).map f).length = 64 := by simp
  have hn := byL_numL _ hb
  rw [hl] at hn
  refine ⟨?_, ?_, fun j hj => ?_⟩
  · rw [b6C_list, hn, List.map_map]
    rfl
  · have := numL_bd _ hb
    rw [hl] at this
    exact this
  · have := congrArg (fun l : List Int => l[j]?) hn
    simpa [byL, hj] using this
theorem byt_bys {f : Nat → Int} (h : ∀ j, 0 ≤ f j ∧ f j < 256) (j : Nat) (hj : j < 32) : byt (numL ((List.range 32).map f)) j = f j := by
  have hb := bys_bd h
  have hl : ((List.range 32).map f).length = 32 := by simp
  have hn := byL_numL _ hb
  rw [hl] at hn
  have := congrArg (fun l : List Int => l[j]?) hn
  simpa [byL, hj] using this
/-- What a half hangs on. -/
def lowF (f : Nat → Int) : Int := numL ((List.range 31).map f ++ [f 31 % 128])
theorem lowF_ext {f g : Nat → Int} (h : ∀ j, j < 31 → f j = g j) (h2 : f 31 % 128 = g 31 % 128) : lowF f = lowF g := by
  unfold lowF
  rw [h2, List.map_congr_left (g := g) (fun j hj => h j (List.mem_range.1 hj))]
theorem low_of {f : Nat → Int} (h : ∀ j, 0 ≤ f j ∧ f j < 256) : lowN (numL ((List.range 32).map f)) = lowF f := by
  refine lowF_ext (f := fun j => byt (numL ((List.range 32).map f)) j) (g := f) (fun j hj => byt_bys h j (by omega)) ?_
  rw [byt_bys h 31 (by omega)]
theorem mapE_F (n : Int) : mapE n = (halfE (fp (lowF (byt n)))).add (halfE (fp (lowF (fun j => byt n (32 + j))))) := by
  unfold mapE fstN fstL lstN lstL
  rw [low_of (fun j => byt_bd n j), low_of (fun j => byt_bd n (32 + j))]
theorem xor_tab : (List.range 256).all (fun i => decide (0 ≤ bits .xor .u8 (i : Int) 128 ∧ bits .xor .u8 (i : Int) 128 < 256 ∧ bits .xor .u8 (i : Int) 128 % 128 = (i : Int) % 128)) = true := by kernel_rfl
theorem xor_128 (x : Int) (h : 0 ≤ x ∧ x < 256) : 0 ≤ bits .xor .u8 x 128 ∧ bits .xor .u8 x 128 < 256 ∧ bits .xor .u8 x 128 % 128 = x % 128 := by
  have := List.all_eq_true.1 xor_tab x.toNat (List.mem_range.2 (by omega))
  simp only [decide_eq_true_eq] at this
  rwa [Int.toNat_of_nonneg h.1] at this
/-- The highest bits changed. -/
def cF6 (n : Int) (j : Nat) : Int := if j = 31 then bits .xor .u8 (byt n 31) 128 else if j = 63 then bits .xor .u8 (byt n 63) 128 else byt n j
theorem cF6_bd (n : Int) (j : Nat) : 0 ≤ cF6 n j ∧ cF6 n j < 256 := by
  unfold cF6
  split
  · have := xor_128 (byt n 31) (byt_bd n 31); exact ⟨this.1, this.2.1⟩
  · split
    · have := xor_128 (byt n 63) (byt_bd n 63); exact ⟨this.1, this.2.1⟩
    · exact byt_bd n j
def cN6 (n : Int) : Int := numL ((List.range 64).map (cF6 n))
theorem c_raw (n : Int) : (((b6C n).setIfInBounds 31 (.int .u8 (bits .xor .u8 (byt n 31) 128))).setIfInBounds 63 (.int .u8 (bits .xor .u8 (byt n 63) 128))) = ((List.range 64).map fun j => Value.int .u8 (cF6 n j)).toArray := by kernel_rfl
theorem is_c (n : Int) : b6D.is (((b6C n).setIfInBounds 31 (.int .u8 (bits .xor .u8 (byt n 31) 128))).setIfInBounds 63 (.int .u8 (bits .xor .u8 (byt n 63) 128))) := by
  rw [c_raw, (bys6 (cF6_bd n)).1]; exact b6D.is_enc (bys6 (cF6_bd n)).2.1
theorem db_c (n : Int) : db (((b6C n).setIfInBounds 31 (.int .u8 (bits .xor .u8 (byt n 31) 128))).setIfInBounds 63 (.int .u8 (bits .xor .u8 (byt n 63) 128))) = cN6 n := by
  rw [c_raw, (bys6 (cF6_bd n)).1]; exact db_b6C _ (bys6 (cF6_bd n)).2.1
/-- The halves changed about. -/
def dF6 (n : Int) (j : Nat) : Int := byt n ((j + 32) % 64)
theorem dF6_bd (n : Int) (j : Nat) : 0 ≤ dF6 n j ∧ dF6 n j < 256 := byt_bd n _
def dN6 (n : Int) : Int := numL ((List.range 64).map (dF6 n))
theorem d_raw (n : Int) : (Calm.splice (Calm.splice (b6C 0) 0 ((b6C n).extract 32 (32 + 32))) 32 ((b6C n).extract 0 (0 + 32))) = ((List.range 64).map fun j => Value.int .u8 (dF6 n j)).toArray := by kernel_rfl
theorem is_d (n : Int) : b6D.is (Calm.splice (Calm.splice (b6C 0) 0 ((b6C n).extract 32 (32 + 32))) 32 ((b6C n).extract 0 (0 + 32))) := by
  rw [d_raw, (bys6 (dF6_bd n)).1]; exact b6D.is_enc (bys6 (dF6_bd n)).2.1
theorem db_d (n : Int) : db (Calm.splice (Calm.splice (b6C 0) 0 ((b6C n).extract 32 (32 + 32))) 32 ((b6C n).extract 0 (0 + 32))) = dN6 n := by
  rw [d_raw, (bys6 (dF6_bd n)).1]; exact db_b6C _ (bys6 (dF6_bd n)).2.1
theorem map_c (n : Int) : mapE (cN6 n) = mapE n := by
  have hc := (bys6 (cF6_bd n)).2.2
  have key : ∀ j, j < 64 → byt (cN6 n) j = cF6 n j := hc
  have a1 : lowF (byt (cN6 n)) = lowF (byt n) := by
    refine lowF_ext (fun j hj => ?_) ?_
    · rw [key _ (by omega)]; unfold cF6; rw [if_neg (by omega), if_neg (by omega)]
    · rw [key _ (by omega)]; exact (xor_128 (byt n 31) (byt_bd n 31)).2.2
  have a2 : lowF (fun j => byt (cN6 n) (32 + j)) = lowF (fun j => byt n (32 + j)) := by
    refine lowF_ext (fun j hj => ?_) ?_
    · show byt (cN6 n) (32 + j) = byt n (32 + j)
      rw [key _ (by omega)]; unfold cF6; rw [if_neg (by omega), if_neg (by omega)]
    · show byt (cN6 n) (32 + 31) % 128 = byt n (32 + 31) % 128
      rw [key _ (by omega)]; exact (xor_128 (byt n 63) (byt_bd n 63)).2.2
  rw [mapE_F, mapE_F, a1, a2]
theorem map_d (n : Int) : mapE (dN6 n) = mapE n := by
  have key : ∀ j, j < 64 → byt (dN6 n) j = dF6 n j := (bys6 (dF6_bd n)).2.2
  have e1 : ∀ j, j < 32 → byt (dN6 n) j = byt n (32 + j) := fun j hj => by
    rw [key _ (by omega)]; unfold dF6; rw [show (j + 32) % 64 = 32 + j by omega]
  have e2 : ∀ j, j < 32 → byt (dN6 n) (32 + j) = byt n j := fun j hj => by
    rw [key _ (by omega)]; unfold dF6; rw [show (32 + j + 32) % 64 = j by omega]
  rw [mapE_F, mapE_F, lowF_ext (f := byt (dN6 n)) (g := fun j => byt n (32 + j)) (fun j hj => e1 j (by omega)) (by rw [e1 31 (by omega)]), lowF_ext (f := fun j => byt (dN6 n) (32 + j)) (g := byt n) (fun j hj => e2 j (by omega)) (by show byt (dN6 n) (32 + 31) % 128 = _; rw [e2 31 (by omega)]), Pt.add_comm]
theorem dp_map (n : Int) : dp (ptC (mapI n)) = mapI n := dp_ptC _ (ok4_map n)
def tab21 : List (Entry Try.prog) := pMap :: tab18
def mpd_h (i : Nat) : Hn := if i = 7 then ⟨0, [(0, true), (1, true), (2, false)], [], [0, 1, 2, 3], []⟩ else if i = 8 then ⟨0, [(0, true), (1, true), (2, false)], [], [0, 1, 2, 3], []⟩ else if i = 9 then ⟨26, [], [], [], []⟩ else ⟨0, [], [], [], []⟩
theorem mpd_0 (n : Int) : evF (yty.en tab21) mpd_h Try.f5 [.agg (b6C n)] [some (.bool true), none, none, none, none, some (.bool true), some (.bool true), some (.bool true), some (.bool true)] = some (.bool true, ((((((((((((((((((((((((((((((((((((((((((((((((((((((((True ∧ True) ∧ True) ∧ b6D.is (b6C n)) ∧ ((ptC (mapI (db (b6C n)))).all (fun v => v.oneCell') = true)) ∧ True) ∧ ptD.is (ptC (mapI (db (b6C n))))) ∧ byD.is (byC (encI (dp (ptC (mapI (db (b6C n)))))))) ∧ True) ∧ True) ∧ (True ∧ (decB (db (byC (encI (dp (ptC (mapI (db (b6C n))))))))) = true)) ∧ ((ptC (decI (db (byC (encI (dp (ptC (mapI (db (b6C n)))))))))).all (fun v => v.oneCell') = true)) ∧ True) ∧ True) ∧ ((b6C n).all (fun v => v.oneCell') = true)) ∧ ((0 : Int) ≤ 31 ∧ (31 : Int) < ((64 : Nat) : Int))) ∧ True) ∧ True) ∧ ((0 : Int) ≤ 31 ∧ (31 : Int) < ((64 : Nat) : Int))) ∧ True) ∧ ((0 : Int) ≤ 63 ∧ (63 : Int) < ((64 : Nat) : Int))) ∧ True) ∧ True) ∧ ((0 : Int) ≤ 63 ∧ (63 : Int) < ((64 : Nat) : Int))) ∧ True) ∧ True) ∧ True) ∧ (((b6C n).extract 32 (32 + 32)).all (fun v => v.oneCell') = true)) ∧ True) ∧ True) ∧ (((b6C n).extract 0 (0 + 32)).all (fun v => v.oneCell') = true)) ∧ True) ∧ (ptD.is (ptC (mapI (db (b6C n)))) ∧ (decide (onQ (dp (ptC (mapI (db (b6C n))))))) = true)) ∧ True) ∧ True) ∧ True) ∧ True) ∧ True) ∧ True) ∧ ((ptD.is (ptC (mapI (db (b6C n)))) ∧ ptD.is (ptC (decI (db (byC (encI (dp (ptC (mapI (db (b6C n))))))))))) ∧ (eqB (dp (ptC (mapI (db (b6C n))))) (dp (ptC (decI (db (byC (encI (dp (ptC (mapI (db (b6C n)))))))))))) = true)) ∧ True) ∧ True) ∧ True) ∧ b6D.is (((b6C n).setIfInBounds 31 (.int .u8 (bits .xor .u8 (byt n 31) 128))).setIfInBounds 63 (.int .u8 (bits .xor .u8 (byt n 63) 128)))) ∧ True) ∧ ((ptD.is (ptC (mapI (db (((b6C n).setIfInBounds 31 (.int .u8 (bits .xor .u8 (byt n 31) 128))).setIfInBounds 63 (.int .u8 (bits .xor .u8 (byt n 63) 128)))))) ∧ ptD.is (ptC (mapI (db (b6C n))))) ∧ (eqB (dp (ptC (mapI (db (((b6C n).setIfInBounds 31 (.int .u8 (bits .xor .u8 (byt n 31) 128))).setIfInBounds 63 (.int .u8 (bits .xor .u8 (byt n 63) 128))))))) (dp (ptC (mapI (db (b6C n)))))) = true)) ∧ True) ∧ True) ∧ True) ∧ b6D.is (Calm.splice (Calm.splice (b6C 0) 0 ((b6C n).extract 32 (32 + 32))) 32 ((b6C n).extract 0 (0 + 32)))) ∧ True) ∧ ((ptD.is (ptC (mapI (db (Calm.splice (Calm.splice (b6C 0) 0 ((b6C n).extract 32 (32 + 32))) 32 ((b6C n).extract 0 (0 + 32)))))) ∧ ptD.is (ptC (mapI (db (b6C n))))) ∧ (eqB (dp (ptC (mapI (db (Calm.splice (Calm.splice (b6C 0) 0 ((b6C n).extract 32 (32 + 32))) 32 ((b6C n).extract 0 (0 + 32))))))) (dp (ptC (mapI (db (b6C n)))))) = true)) ∧ True) ∧ True) ∧ True) ∧ True) ∧ True)) := by kernel_rfl
set_option maxHeartbeats 4000000 in
theorem mpd_p (n : Int) (hn : Ok6 n) (h0 : (decB ((encI ((mapI (n)))))) = true) (h1 : (decide (onQ ((mapI (n))))) = true) (h2 : (eqB ((mapI (n))) ((decI ((encI ((mapI (n)))))))) = true) (h3 : (eqB ((mapI (db (((b6C n).setIfInBounds 31 (.int .u8 (bits .xor .u8 (byt n 31) 128))).setIfInBounds 63 (.int .u8 (bits .xor .u8 (byt n 63) 128)))))) ((mapI (n)))) = true) (h4 : (eqB ((mapI (db (Calm.splice (Calm.splice (b6C 0) 0 ((b6C n).extract 32 (32 + 32))) 32 ((b6C n).extract 0 (0 + 32)))))) ((mapI (n)))) = true) : Pure Try.prog 5 #[.agg (b6C n)] (.bool true) := by
  have h0 : (decB (db (byC (encI (dp (ptC (mapI (db (b6C n))))))))) = true := by
    simp only [nm_mod, nn_mod, nm_inv, nn_inv, nm_d, nn_d, nm_1, nn_1, nm_root, nn_quo, db_b6C _ hn, dp_map, db_encI, dp_dec]
    exact h0
  have h1 : (decide (onQ (dp (ptC (mapI (db (b6C n))))))) = true := by
    simp only [nm_mod, nn_mod, nm_inv, nn_inv, nm_d, nn_d, nm_1, nn_1, nm_root, nn_quo, db_b6C _ hn, dp_map, db_encI, dp_dec]
    exact h1
  have h2 : (eqB (dp (ptC (mapI (db (b6C n))))) (dp (ptC (decI (db (byC (encI (dp (ptC (mapI (db (b6C n)))))))))))) = true := by
    simp only [nm_mod, nn_mod, nm_inv, nn_inv, nm_d, nn_d, nm_1, nn_1, nm_root, nn_quo, db_b6C _ hn, dp_map, db_encI, dp_dec]
    exact h2
  have h3 : (eqB (dp (ptC (mapI (db (((b6C n).setIfInBounds 31 (.int .u8 (bits .xor .u8 (byt n 31) 128))).setIfInBounds 63 (.int .u8 (bits .xor .u8 (byt n 63) 128))))))) (dp (ptC (mapI (db (b6C n)))))) = true := by
    simp only [nm_mod, nn_mod, nm_inv, nn_inv, nm_d, nn_d, nm_1, nn_1, nm_root, nn_quo, db_b6C _ hn, dp_map, db_encI, dp_dec]
    exact h3
  have h4 : (eqB (dp (ptC (mapI (db (Calm.splice (Calm.splice (b6C 0) 0 ((b6C n).extract 32 (32 + 32))) 32 ((b6C n).extract 0 (0 + 32))))))) (dp (ptC (mapI (db (b6C n)))))) = true := by
    simp only [nm_mod, nn_mod, nm_inv, nn_inv, nm_d, nn_d, nm_1, nn_1, nm_root, nn_quo, db_b6C _ hn, dp_map, db_encI, dp_dec]
    exact h4
  exact pure_of mixed Try.func5 _ (mpd_0 n) rfl ⟨⟨⟨⟨⟨⟨⟨⟨⟨⟨⟨⟨⟨⟨⟨⟨⟨⟨⟨⟨⟨⟨⟨⟨⟨⟨⟨⟨⟨⟨⟨⟨⟨⟨⟨⟨⟨⟨⟨⟨⟨⟨⟨⟨⟨⟨⟨⟨⟨⟨⟨⟨⟨⟨⟨⟨trivial, trivial⟩, trivial⟩, (b6D.is_enc (hn))⟩, ptC_one _⟩, trivial⟩, (ptD.is_enc (ok4_map _))⟩, (byD.is_enc (ok_encI _))⟩, trivial⟩, trivial⟩, ⟨trivial, h0⟩⟩, ptC_one _⟩, trivial⟩, trivial⟩, one_b6 _⟩, ⟨by decide, by decide⟩⟩, trivial⟩, trivial⟩, ⟨by decide, by decide⟩⟩, trivial⟩, ⟨by decide, by decide⟩⟩, trivial⟩, trivial⟩, ⟨by decide, by decide⟩⟩, trivial⟩, trivial⟩, trivial⟩, (by kernel_rfl)⟩, trivial⟩, trivial⟩, (by kernel_rfl)⟩, trivial⟩, ⟨(ptD.is_enc (ok4_map _)), h1⟩⟩, trivial⟩, trivial⟩, trivial⟩, trivial⟩, trivial⟩, trivial⟩, ⟨⟨(ptD.is_enc (ok4_map _)), (ptD.is_enc (ok4_dec _))⟩, h2⟩⟩, trivial⟩, trivial⟩, trivial⟩, (is_c n)⟩, trivial⟩, ⟨⟨(ptD.is_enc (ok4_map _)), (ptD.is_enc (ok4_map _))⟩, h3⟩⟩, trivial⟩, trivial⟩, trivial⟩, (is_d n)⟩, trivial⟩, ⟨⟨(ptD.is_enc (ok4_map _)), (ptD.is_enc (ok4_map _))⟩, h4⟩⟩, trivial⟩, trivial⟩, trivial⟩, trivial⟩, trivial⟩
theorem mapped_c (n : Int) (hn : Ok6 n) : Pure Try.prog 5 #[.agg (b6C n)] (.bool true) := by
  have R := map_rep n
  have ev := map_evn n
  have e1 := enc_repP R
  refine mpd_p n hn ?_ (decide_eq_true (on_of_rep R)) ?_ ?_ ?_
  · rw [e1]; exact decB_enc ev
  · rw [e1, eqB_iff R (dec_enc_rep ev)]; exact eq_symm (eq_can _)
  · rw [db_c, eqB_iff (map_rep _) R, map_c]; exact eq_refl _
  · rw [db_d, eqB_iff (map_rep _) R, map_d]; exact eq_refl _
end Go.Proofs.Ytlbofcgjdbfenab
