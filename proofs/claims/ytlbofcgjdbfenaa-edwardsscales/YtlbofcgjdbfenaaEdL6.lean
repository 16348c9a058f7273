import Derived.Test.YtlbofcgjdbfenaaEdL5
set_option linter.unusedSimpArgs false
set_option linter.unusedVariables false
namespace Go.Proofs.Ytlbofcgjdbfenaa
open Go.RowKit Go.Ev
/-- Eight bytes of a number. -/
def ofRaw (n : Int) : Array Value := (((((((((byC 0).setIfInBounds 0 (.int .u8 (IntKind.u8.wrap (n / 2 ^ (0))))).setIfInBounds 1 (.int .u8 (IntKind.u8.wrap (n / 2 ^ (8))))).setIfInBounds 2 (.int .u8 (IntKind.u8.wrap (n / 2 ^ (16))))).setIfInBounds 3 (.int .u8 (IntKind.u8.wrap (n / 2 ^ (24))))).setIfInBounds 4 (.int .u8 (IntKind.u8.wrap (n / 2 ^ (32))))).setIfInBounds 5 (.int .u8 (IntKind.u8.wrap (n / 2 ^ (40))))).setIfInBounds 6 (.int .u8 (IntKind.u8.wrap (n / 2 ^ (48))))).setIfInBounds 7 (.int .u8 (IntKind.u8.wrap (n / 2 ^ (56)))))
theorem u8w (x : Int) : IntKind.u8.wrap x = x % 256 := by rw [IntKind.wrap_u8]
theorem byC_00 (n : Int) : byC 0 = byK n 0 := by
  simp [byC, byK, byt]
theorem of_step (n : Int) (k : Nat) (e : Nat) (he : (2 : Int) ^ e = 256 ^ k) : (byK n k).setIfInBounds k (.int .u8 (IntKind.u8.wrap (n / 2 ^ e))) = byK n (k + 1) :=
  byK_next n k _ (by rw [u8w, he]; rfl)
theorem byK_8 {n : Int} (h : w64 n) : byK n 8 = byC n := by
  unfold byC byK
  congr 1
  apply List.map_congr_left
  intro j hj
  by_cases h8 : j < 8
  · rw [if_pos h8, if_pos (by have := List.mem_range.1 hj; omega)]
  · rw [if_neg h8, if_pos (by have := List.mem_range.1 hj; omega)]
    unfold byt
    have hp : (256 : Int) ^ 8 ≤ 256 ^ j := by
      obtain ⟨i, rfl⟩ : ∃ i, j = 8 + i := ⟨j - 8, by omega⟩
      rw [Int.pow_add]
      have : (0 : Int) < 256 ^ i := Int.pow_pos (by omega)
      have h1 : (1 : Int) ≤ 256 ^ i := this
      have := Int.mul_le_mul_of_nonneg_left h1 (show (0 : Int) ≤ 256 ^ 8 by decide)
      rwa [Int.mul_one] at this
    have : n / 256 ^ j = 0 := Int.ediv_eq_zero_of_lt h.1 (by have := h.2; rw [show (256 : Int) ^ 8 = 18446744073709551616 by decide] at hp; omega)
    rw [this]; rfl
theorem ofRaw_eq {n : Int} (h : w64 n) : ofRaw n = byC n := by
  unfold ofRaw
  rw [byC_00 n, of_step n 0 0 (by decide), of_step n 1 8 (by decide), of_step n 2 16 (by decide), of_step n 3 24 (by decide), of_step n 4 32 (by decide), of_step n 5 40 (by decide), of_step n 6 48 (by decide), of_step n 7 56 (by decide), byK_8 h]
theorem w64_ok {n : Int} (h : w64 n) : Ok n := ⟨h.1, by have := h.2; unfold w64 at *; omega⟩
theorem is_ofRaw {n : Int} (h : w64 n) : byD.is (ofRaw n) := by rw [ofRaw_eq h]; exact byD.is_enc (w64_ok h)
namespace Sc
theorem one_is {a : Array Value} (h : byD.is a) : a.all (fun v => v.oneCell') = true := by
  obtain ⟨x, _, rfl⟩ := h
  exact byK_one x 32
def sof_h (i : Nat) : Hn := ⟨0, [], [], [], []⟩
theorem sof_0 (n : Int) : evF (yty.en tab8) sof_h Try.f15 [.int .u64 n] [] = some (.agg (ofRaw n), ((((((((((((((((((((((((((((((((((((((((((((((((((((((((((((((((((((((((((((((((((((((((((((((((((((((((((((True ∧ True) ∧ True) ∧ True) ∧ True) ∧ True) ∧ True) ∧ True) ∧ True) ∧ ((0 : Int) ≤ 0)) ∧ True) ∧ ((0 : Int) ≤ 0 ∧ (0 : Int) < ((32 : Nat) : Int))) ∧ True) ∧ True) ∧ True) ∧ True) ∧ True) ∧ True) ∧ True) ∧ True) ∧ True) ∧ True) ∧ ((0 : Int) ≤ 8)) ∧ True) ∧ ((0 : Int) ≤ 1 ∧ (1 : Int) < ((32 : Nat) : Int))) ∧ True) ∧ True) ∧ True) ∧ True) ∧ True) ∧ True) ∧ True) ∧ True) ∧ True) ∧ True) ∧ ((0 : Int) ≤ 16)) ∧ True) ∧ ((0 : Int) ≤ 2 ∧ (2 : Int) < ((32 : Nat) : Int))) ∧ True) ∧ True) ∧ True) ∧ True) ∧ True) ∧ True) ∧ True) ∧ True) ∧ True) ∧ True) ∧ ((0 : Int) ≤ 24)) ∧ True) ∧ ((0 : Int) ≤ 3 ∧ (3 : Int) < ((32 : Nat) : Int))) ∧ True) ∧ True) ∧ True) ∧ True) ∧ True) ∧ True) ∧ True) ∧ True) ∧ True) ∧ True) ∧ ((0 : Int) ≤ 32)) ∧ True) ∧ ((0 : Int) ≤ 4 ∧ (4 : Int) < ((32 : Nat) : Int))) ∧ True) ∧ True) ∧ True) ∧ True) ∧ True) ∧ True) ∧ True) ∧ True) ∧ True) ∧ True) ∧ ((0 : Int) ≤ 40)) ∧ True) ∧ ((0 : Int) ≤ 5 ∧ (5 : Int) < ((32 : Nat) : Int))) ∧ True) ∧ True) ∧ True) ∧ True) ∧ True) ∧ True) ∧ True) ∧ True) ∧ True) ∧ True) ∧ ((0 : Int) ≤ 48)) ∧ True) ∧ ((0 : Int) ≤ 6 ∧ (6 : Int) < ((32 : Nat) : Int))) ∧ True) ∧ True) ∧ True) ∧ True) ∧ True) ∧ True) ∧ True) ∧ True) ∧ True) ∧ True) ∧ ((0 : Int) ≤ 56)) ∧ True) ∧ ((0 : Int) ≤ 7 ∧ (7 : Int) < ((32 : Nat) : Int))) ∧ True) ∧ True) ∧ True) ∧ True) ∧ True) ∧ ((ofRaw n).all (fun v => v.oneCell') = true))) := by kernel_rfl
def sof_F (n : Int) : Value := .agg (ofRaw n)
set_option maxHeartbeats 4000000 in
theorem sof_p (n : Int) (hn : w64 n) : Pure Try.prog 15 #[.int .u64 n] (sof_F n) := by
  unfold sof_F
  exact pure_of mixed Try.func15 _ (sof_0 n) rfl ⟨⟨⟨⟨⟨⟨⟨⟨⟨⟨⟨⟨⟨⟨⟨⟨⟨⟨⟨⟨⟨⟨⟨⟨⟨⟨⟨⟨⟨⟨⟨⟨⟨⟨⟨⟨⟨⟨⟨⟨⟨⟨⟨⟨⟨⟨⟨⟨⟨⟨⟨⟨⟨⟨⟨⟨⟨⟨⟨⟨⟨⟨⟨⟨⟨⟨⟨⟨⟨⟨⟨⟨⟨⟨⟨⟨⟨⟨⟨⟨⟨⟨⟨⟨⟨⟨⟨⟨⟨⟨⟨⟨⟨⟨⟨⟨⟨⟨⟨⟨⟨⟨⟨⟨⟨⟨⟨⟨trivial, trivial⟩, trivial⟩, trivial⟩, trivial⟩, trivial⟩, trivial⟩, trivial⟩, trivial⟩, (by decide)⟩, trivial⟩, ⟨by decide, by decide⟩⟩, trivial⟩, trivial⟩, trivial⟩, trivial⟩, trivial⟩, trivial⟩, trivial⟩, trivial⟩, trivial⟩, trivial⟩, (by decide)⟩, trivial⟩, ⟨by decide, by decide⟩⟩, trivial⟩, trivial⟩, trivial⟩, trivial⟩, trivial⟩, trivial⟩, trivial⟩, trivial⟩, trivial⟩, trivial⟩, (by decide)⟩, trivial⟩, ⟨by decide, by decide⟩⟩, trivial⟩, trivial⟩, trivial⟩, trivial⟩, trivial⟩, trivial⟩, trivial⟩, trivial⟩, trivial⟩, trivial⟩, (by decide)⟩, trivial⟩, ⟨by decide, by decide⟩⟩, trivial⟩, trivial⟩, trivial⟩, trivial⟩, trivial⟩, trivial⟩, trivial⟩, trivial⟩, trivial⟩, trivial⟩, (by decide)⟩, trivial⟩, ⟨by decide, by decide⟩⟩, trivial⟩, trivial⟩, trivial⟩, trivial⟩, trivial⟩, trivial⟩, trivial⟩, trivial⟩, trivial⟩, trivial⟩, (by decide)⟩, trivial⟩, ⟨by decide, by decide⟩⟩, trivial⟩, trivial⟩, trivial⟩, trivial⟩, trivial⟩, trivial⟩, trivial⟩, trivial⟩, trivial⟩, trivial⟩, (by decide)⟩, trivial⟩, ⟨by decide, by decide⟩⟩, trivial⟩, trivial⟩, trivial⟩, trivial⟩, trivial⟩, trivial⟩, trivial⟩, trivial⟩, trivial⟩, trivial⟩, (by decide)⟩, trivial⟩, ⟨by decide, by decide⟩⟩, trivial⟩, trivial⟩, trivial⟩, trivial⟩, trivial⟩, one_is (is_ofRaw hn)⟩
end Sc
theorem ScOf_c (n : Int) (hn : w64 n) : Pure Try.prog 15 #[.int .u64 n] (.agg (byC n)) := by
  have h := Sc.sof_p n hn
  unfold Sc.sof_F at h
  rwa [ofRaw_eq hn] at h
def lOf : Entry Try.prog := entN Try.func15 (by kernel_rfl) (by kernel_rfl) (fun n => .agg (byC n)) w64 (k := .u64) ScOf_c
def tab9 : List (Entry Try.prog) := lOf :: tab8
theorem w_32 {m : Int} (h : 0 ≤ m ∧ m ≤ 4294967295) : IntKind.u64.wrap m = m := by rw [IntKind.wrap_u64]; omega
theorem w_32s {m n : Int} (h : 0 ≤ m ∧ m ≤ 4294967295) (k : 0 ≤ n ∧ n ≤ 4294967295) : IntKind.u64.wrap (m + n) = m + n := by rw [IntKind.wrap_u64]; omega
theorem w64_m {m : Int} (h : 0 ≤ m ∧ m ≤ 4294967295) : w64 m := ⟨h.1, by omega⟩
theorem w64_s {m n : Int} (h : 0 ≤ m ∧ m ≤ 4294967295) (k : 0 ≤ n ∧ n ≤ 4294967295) : w64 (m + n) := ⟨by omega, by omega⟩
def elI : Int := 7237005577332262213973186563042994240857116359379907606001950938285454250989
def scT_h (i : Nat) : Hn := if i = 5 then ⟨14, [], [], [], []⟩ else if i = 6 then ⟨10, [], [], [], []⟩ else if i = 8 then ⟨32, [], [], [], []⟩ else ⟨0, [], [], [], []⟩
theorem scT_0 (m n : Int) (a : Sd) : evF (yty.en tab9) scT_h Try.f4 [.int .u32 m, .int .u32 n, .agg (sdC a)] [none, some (.bool true), some (.int .u64 m), some (.int .u64 n), some (.int .u64 m), some (.int .u64 n), some (.int .u64 (m + n)), some (.bool true), some (.bool true), some (.bool true), some (.bool true)] = some (.bool true, ((((((((((((((((((((((((((((((((((((((((((((((((((((((((((((((((((((((((True ∧ True) ∧ True) ∧ True) ∧ True) ∧ True) ∧ feD.is (feC a.Y)) ∧ True) ∧ True) ∧ (True ∧ (atB (nm (feC a.Y)) (a.o)) = true)) ∧ ((ptC (atP (nm (feC a.Y)) (a.o))).all (fun v => v.oneCell') = true)) ∧ True) ∧ True) ∧ True) ∧ True) ∧ True) ∧ True) ∧ (True ∧ (IntKind.u64.wrap m) = m)) ∧ (IntKind.u64 = IntKind.u64 ∧ w64 m)) ∧ True) ∧ (byD.is (byC m) ∧ ptD.is (ptC (atP (nm (feC a.Y)) (a.o))))) ∧ True) ∧ True) ∧ (True ∧ (IntKind.u64.wrap n) = n)) ∧ (IntKind.u64 = IntKind.u64 ∧ w64 n)) ∧ True) ∧ (byD.is (byC n) ∧ ptD.is (ptC (atP (nm (feC a.Y)) (a.o))))) ∧ ((ptC (timP (db (byC m)) (dp (ptC (atP (nm (feC a.Y)) (a.o)))))).all (fun v => v.oneCell') = true)) ∧ ((ptC (timP (db (byC n)) (dp (ptC (atP (nm (feC a.Y)) (a.o)))))).all (fun v => v.oneCell') = true)) ∧ True) ∧ True) ∧ (True ∧ (IntKind.u64.wrap m) = m)) ∧ True) ∧ (True ∧ (IntKind.u64.wrap n) = n)) ∧ (True ∧ (IntKind.u64.wrap (m + n)) = (m + n))) ∧ (IntKind.u64 = IntKind.u64 ∧ w64 (m + n))) ∧ True) ∧ (byD.is (byC (m + n)) ∧ ptD.is (ptC (atP (nm (feC a.Y)) (a.o))))) ∧ ((ptC (timP (db (byC (m + n))) (dp (ptC (atP (nm (feC a.Y)) (a.o)))))).all (fun v => v.oneCell') = true)) ∧ True) ∧ ((byC 7237005577332262213973186563042994240857116359379907606001950938285454250989).all (fun v => v.oneCell') = true)) ∧ True) ∧ True) ∧ (ptD.is (ptC (timP (db (byC m)) (dp (ptC (atP (nm (feC a.Y)) (a.o)))))) ∧ ptD.is (ptC (timP (db (byC n)) (dp (ptC (atP (nm (feC a.Y)) (a.o)))))))) ∧ True) ∧ ((ptD.is (ptC (addP (dp (ptC (timP (db (byC m)) (dp (ptC (atP (nm (feC a.Y)) (a.o))))))) (dp (ptC (timP (db (byC n)) (dp (ptC (atP (nm (feC a.Y)) (a.o))))))))) ∧ ptD.is (ptC (timP (db (byC (m + n))) (dp (ptC (atP (nm (feC a.Y)) (a.o))))))) ∧ (decide (sameQ (dp (ptC (addP (dp (ptC (timP (db (byC m)) (dp (ptC (atP (nm (feC a.Y)) (a.o))))))) (dp (ptC (timP (db (byC n)) (dp (ptC (atP (nm (feC a.Y)) (a.o)))))))))) (dp (ptC (timP (db (byC (m + n))) (dp (ptC (atP (nm (feC a.Y)) (a.o))))))))) = true)) ∧ True) ∧ True) ∧ (IntKind.u64 = IntKind.u64 ∧ w64 0)) ∧ True) ∧ (byD.is (byC 0) ∧ ptD.is (ptC (atP (nm (feC a.Y)) (a.o))))) ∧ True) ∧ ((ptD.is (ptC (timP (db (byC 0)) (dp (ptC (atP (nm (feC a.Y)) (a.o)))))) ∧ ptD.is (ptC (ofP 0 1))) ∧ (decide (sameQ (dp (ptC (timP (db (byC 0)) (dp (ptC (atP (nm (feC a.Y)) (a.o))))))) (dp (ptC (ofP 0 1))))) = true)) ∧ True) ∧ True) ∧ True) ∧ (IntKind.u64 = IntKind.u64 ∧ w64 1)) ∧ True) ∧ (byD.is (byC 1) ∧ ptD.is (ptC (atP (nm (feC a.Y)) (a.o))))) ∧ True) ∧ ((ptD.is (ptC (timP (db (byC 1)) (dp (ptC (atP (nm (feC a.Y)) (a.o)))))) ∧ ptD.is (ptC (atP (nm (feC a.Y)) (a.o)))) ∧ (decide (sameQ (dp (ptC (timP (db (byC 1)) (dp (ptC (atP (nm (feC a.Y)) (a.o))))))) (dp (ptC (atP (nm (feC a.Y)) (a.o)))))) = true)) ∧ True) ∧ True) ∧ True) ∧ True) ∧ (byD.is (byC 7237005577332262213973186563042994240857116359379907606001950938285454250989) ∧ ptD.is (ptC (ofP bxN byN)))) ∧ True) ∧ ((ptD.is (ptC (timP (db (byC 7237005577332262213973186563042994240857116359379907606001950938285454250989)) (dp (ptC (ofP bxN byN))))) ∧ ptD.is (ptC (ofP 0 1))) ∧ (decide (sameQ (dp (ptC (timP (db (byC 7237005577332262213973186563042994240857116359379907606001950938285454250989)) (dp (ptC (ofP bxN byN)))))) (dp (ptC (ofP 0 1))))) = true)) ∧ True) ∧ True) ∧ True) ∧ True) ∧ True)) := by kernel_rfl
set_option maxHeartbeats 4000000 in
theorem scT_p (m n : Int) (a : Sd) (hm : 0 ≤ m ∧ m ≤ 4294967295) (hn : 0 ≤ n ∧ n ≤ 4294967295) (ha : Ok a.Y) (h1 : (atB (a.Y) (a.o)) = true) (h2 : (decide (sameQ ((addP ((timP (m) ((atP (a.Y) (a.o))))) ((timP (n) ((atP (a.Y) (a.o))))))) ((timP ((m + n)) ((atP (a.Y) (a.o))))))) = true) (h3 : (decide (sameQ ((timP (0) ((atP (a.Y) (a.o))))) ((ofP 0 1)))) = true) (h4 : (decide (sameQ ((timP (1) ((atP (a.Y) (a.o))))) ((atP (a.Y) (a.o))))) = true) (h5 : (decide (sameQ ((timP (7237005577332262213973186563042994240857116359379907606001950938285454250989) ((ofP bxN byN)))) ((ofP 0 1)))) = true) : Pure Try.prog 4 #[.int .u32 m, .int .u32 n, .agg (sdC a)] (.bool true) := by
  have h1 : (atB (nm (feC a.Y)) (a.o)) = true := by
    simp only [nm_mod, nn_mod, nm_inv, nn_inv, nm_d, nn_d, nm_1, nn_1, nm_root, nn_quo, nm_feC _ ha, dp_ptC _ (ok4_at a.Y a.o ha), db_byC _ (w64_ok (w64_m hm)), db_byC _ (w64_ok (w64_m hn)), db_byC _ (w64_ok (w64_s hm hn)), dp_ptC _ (ok4_tim _ _), dp_ptC _ (ok4_add _ _), dp_ptC _ ok4_id, dp_ptC _ ok4_base, db_byC 0 ⟨by decide, by decide⟩, db_byC 1 ⟨by decide, by decide⟩, db_byC 7237005577332262213973186563042994240857116359379907606001950938285454250989 ⟨by decide, by decide⟩]
    exact h1
  have h2 : (decide (sameQ (dp (ptC (addP (dp (ptC (timP (db (byC m)) (dp (ptC (atP (nm (feC a.Y)) (a.o))))))) (dp (ptC (timP (db (byC n)) (dp (ptC (atP (nm (feC a.Y)) (a.o)))))))))) (dp (ptC (timP (db (byC (m + n))) (dp (ptC (atP (nm (feC a.Y)) (a.o))))))))) = true := by
    simp only [nm_mod, nn_mod, nm_inv, nn_inv, nm_d, nn_d, nm_1, nn_1, nm_root, nn_quo, nm_feC _ ha, dp_ptC _ (ok4_at a.Y a.o ha), db_byC _ (w64_ok (w64_m hm)), db_byC _ (w64_ok (w64_m hn)), db_byC _ (w64_ok (w64_s hm hn)), dp_ptC _ (ok4_tim _ _), dp_ptC _ (ok4_add _ _), dp_ptC _ ok4_id, dp_ptC _ ok4_base, db_byC 0 ⟨by decide, by decide⟩, db_byC 1 ⟨by decide, by decide⟩, db_byC 7237005577332262213973186563042994240857116359379907606001950938285454250989 ⟨by decide, by decide⟩]
    exact h2
  have h3 : (decide (sameQ (dp (ptC (timP (db (byC 0)) (dp (ptC (atP (nm (feC a.Y)) (a.o))))))) (dp (ptC (ofP 0 1))))) = true := by
    simp only [nm_mod, nn_mod, nm_inv, nn_inv, nm_d, nn_d, nm_1, nn_1, nm_root, nn_quo, nm_feC _ ha, dp_ptC _ (ok4_at a.Y a.o ha), db_byC _ (w64_ok (w64_m hm)), db_byC _ (w64_ok (w64_m hn)), db_byC _ (w64_ok (w64_s hm hn)), dp_ptC _ (ok4_tim _ _), dp_ptC _ (ok4_add _ _), dp_ptC _ ok4_id, dp_ptC _ ok4_base, db_byC 0 ⟨by decide, by decide⟩, db_byC 1 ⟨by decide, by decide⟩, db_byC 7237005577332262213973186563042994240857116359379907606001950938285454250989 ⟨by decide, by decide⟩]
    exact h3
  have h4 : (decide (sameQ (dp (ptC (timP (db (byC 1)) (dp (ptC (atP (nm (feC a.Y)) (a.o))))))) (dp (ptC (atP (nm (feC a.Y)) (a.o)))))) = true := by
    simp only [nm_mod, nn_mod, nm_inv, nn_inv, nm_d, nn_d, nm_1, nn_1, nm_root, nn_quo, nm_feC _ ha, dp_ptC _ (ok4_at a.Y a.o ha), db_byC _ (w64_ok (w64_m hm)), db_byC _ (w64_ok (w64_m hn)), db_byC _ (w64_ok (w64_s hm hn)), dp_ptC _ (ok4_tim _ _), dp_ptC _ (ok4_add _ _), dp_ptC _ ok4_id, dp_ptC _ ok4_base, db_byC 0 ⟨by decide, by decide⟩, db_byC 1 ⟨by decide, by decide⟩, db_byC 7237005577332262213973186563042994240857116359379907606001950938285454250989 ⟨by decide, by decide⟩]
    exact h4
  have h5 : (decide (sameQ (dp (ptC (timP (db (byC 7237005577332262213973186563042994240857116359379907606001950938285454250989)) (dp (ptC (ofP bxN byN)))))) (dp (ptC (ofP 0 1))))) = true := by
    simp only [nm_mod, nn_mod, nm_inv, nn_inv, nm_d, nn_d, nm_1, nn_1, nm_root, nn_quo, nm_feC _ ha, dp_ptC _ (ok4_at a.Y a.o ha), db_byC _ (w64_ok (w64_m hm)), db_byC _ (w64_ok (w64_m hn)), db_byC _ (w64_ok (w64_s hm hn)), dp_ptC _ (ok4_tim _ _), dp_ptC _ (ok4_add _ _), dp_ptC _ ok4_id, dp_ptC _ ok4_base, db_byC 0 ⟨by decide, by decide⟩, db_byC 1 ⟨by decide, by decide⟩, db_byC 7237005577332262213973186563042994240857116359379907606001950938285454250989 ⟨by decide, by decide⟩]
    exact h5
  exact pure_of mixed Try.func4 _ (scT_0 m n a) rfl ⟨⟨⟨⟨⟨⟨⟨⟨⟨⟨⟨⟨⟨⟨⟨⟨⟨⟨⟨⟨⟨⟨⟨⟨⟨⟨⟨⟨⟨⟨⟨⟨⟨⟨⟨⟨⟨⟨⟨⟨⟨⟨⟨⟨⟨⟨⟨⟨⟨⟨⟨⟨⟨⟨⟨⟨⟨⟨⟨⟨⟨⟨⟨⟨⟨⟨⟨⟨⟨⟨⟨⟨trivial, trivial⟩, trivial⟩, trivial⟩, trivial⟩, trivial⟩, (feD.is_enc (ha))⟩, trivial⟩, trivial⟩, ⟨trivial, h1⟩⟩, ptC_one _⟩, trivial⟩, trivial⟩, trivial⟩, trivial⟩, trivial⟩, trivial⟩, ⟨trivial, w_32 hm⟩⟩, ⟨rfl, (w64_m hm)⟩⟩, trivial⟩, ⟨(byD.is_enc (w64_ok (w64_m hm))), (ptD.is_enc (ok4_atD _ (ha)))⟩⟩, trivial⟩, trivial⟩, ⟨trivial, w_32 hn⟩⟩, ⟨rfl, (w64_m hn)⟩⟩, trivial⟩, ⟨(byD.is_enc (w64_ok (w64_m hn))), (ptD.is_enc (ok4_atD _ (ha)))⟩⟩, ptC_one _⟩, ptC_one _⟩, trivial⟩, trivial⟩, ⟨trivial, w_32 hm⟩⟩, trivial⟩, ⟨trivial, w_32 hn⟩⟩, ⟨trivial, w_32s hm hn⟩⟩, ⟨rfl, (w64_s hm hn)⟩⟩, trivial⟩, ⟨(byD.is_enc (w64_ok (w64_s hm hn))), (ptD.is_enc (ok4_atD _ (ha)))⟩⟩, ptC_one _⟩, trivial⟩, byK_one _ _⟩, trivial⟩, trivial⟩, ⟨(ptD.is_enc (ok4_tim _ _)), (ptD.is_enc (ok4_tim _ _))⟩⟩, trivial⟩, ⟨⟨(ptD.is_enc (ok4_add _ _)), (ptD.is_enc (ok4_tim _ _))⟩, h2⟩⟩, trivial⟩, trivial⟩, ⟨rfl, ⟨by decide, by decide⟩⟩⟩, trivial⟩, ⟨(byD.is_enc (w64_ok ⟨by decide, by decide⟩)), (ptD.is_enc (ok4_atD _ (ha)))⟩⟩, trivial⟩, ⟨⟨(ptD.is_enc (ok4_tim _ _)), (ptD.is_enc (ok4_id))⟩, h3⟩⟩, trivial⟩, trivial⟩, trivial⟩, ⟨rfl, ⟨by decide, by decide⟩⟩⟩, trivial⟩, ⟨(byD.is_enc (w64_ok ⟨by decide, by decide⟩)), (ptD.is_enc (ok4_atD _ (ha)))⟩⟩, trivial⟩, ⟨⟨(ptD.is_enc (ok4_tim _ _)), (ptD.is_enc (ok4_atD _ (ha)))⟩, h4⟩⟩, trivial⟩, trivial⟩, trivial⟩, trivial⟩, ⟨(byD.is_enc (show Ok 7237005577332262213973186563042994240857116359379907606001950938285454250989 from ⟨by decide, by decide⟩)), (ptD.is_enc (ok4_base))⟩⟩, trivial⟩, ⟨⟨(ptD.is_enc (ok4_tim _ _)), (ptD.is_enc (ok4_id))⟩, h5⟩⟩, trivial⟩, trivial⟩, trivial⟩, trivial⟩, trivial⟩
def scF_h (i : Nat) : Hn := if i = 5 then ⟨14, [], [], [], []⟩ else if i = 6 then ⟨10, [], [], [], []⟩ else if i = 8 then ⟨32, [], [], [], []⟩ else ⟨0, [], [], [], []⟩
theorem scF_0 (m n : Int) (a : Sd) : evF (yty.en tab9) scF_h Try.f4 [.int .u32 m, .int .u32 n, .agg (sdC a)] [none, some (.bool false)] = some (.bool true, (((((((((((((((True ∧ True) ∧ True) ∧ True) ∧ True) ∧ True) ∧ feD.is (feC a.Y)) ∧ True) ∧ True) ∧ (True ∧ (atB (nm (feC a.Y)) (a.o)) = false)) ∧ ((ptC (atP (nm (feC a.Y)) (a.o))).all (fun v => v.oneCell') = true)) ∧ True) ∧ True) ∧ True) ∧ True) ∧ True)) := by kernel_rfl
set_option maxHeartbeats 4000000 in
theorem scF_p (m n : Int) (a : Sd) (hm : 0 ≤ m ∧ m ≤ 4294967295) (hn : 0 ≤ n ∧ n ≤ 4294967295) (ha : Ok a.Y) (h1 : (atB (a.Y) (a.o)) = false) : Pure Try.prog 4 #[.int .u32 m, .int .u32 n, .agg (sdC a)] (.bool true) := by
  have h1 : (atB (nm (feC a.Y)) (a.o)) = false := by
    simp only [nm_mod, nn_mod, nm_inv, nn_inv, nm_d, nn_d, nm_1, nn_1, nm_root, nn_quo, nm_feC _ ha]
    exact h1
  exact pure_of mixed Try.func4 _ (scF_0 m n a) rfl ⟨⟨⟨⟨⟨⟨⟨⟨⟨⟨⟨⟨⟨⟨⟨trivial, trivial⟩, trivial⟩, trivial⟩, trivial⟩, trivial⟩, (feD.is_enc (ha))⟩, trivial⟩, trivial⟩, ⟨trivial, h1⟩⟩, ptC_one _⟩, trivial⟩, trivial⟩, trivial⟩, trivial⟩, trivial⟩
theorem same_true {p q : P4} {a : Pt} (h : RepP p a) (k : RepP q a) : decide (sameQ p q) = true := decide_eq_true ((same_iff h k).2 rfl)
theorem scales_c (m n : Int) (a : Sd) (hm : 0 ≤ m ∧ m ≤ 4294967295) (hn : 0 ≤ n ∧ n ≤ 4294967295) (ha : Ok a.Y) : Pure Try.prog 4 #[.int .u32 m, .int .u32 n, .agg (sdC a)] (.bool true) := by
  cases h : atB a.Y a.o with
  | false => exact scF_p m n a hm hn ha h
  | true =>
    obtain ⟨x, p, _⟩ := at_rep a.Y a.o ha h
    refine scT_p m n a hm hn ha h ?_ ?_ ?_ ?_
    · have h1 := rep_add (rep_tim (w64_ok (w64_m hm)) p) (rep_tim (w64_ok (w64_m hn)) p)
      have h2 := rep_tim (w64_ok (w64_s hm hn)) p
      rw [← Pt.tm_add, ← show (m + n).toNat = m.toNat + n.toNat by omega] at h1
      exact same_true h1 h2
    · have h1 := rep_tim (K := 0) ⟨by decide, by decide⟩ p
      rw [show (0 : Int).toNat = 0 from rfl, Pt.tm_0] at h1
      exact same_true h1 rep_id
    · have h1 := rep_tim (K := 1) ⟨by decide, by decide⟩ p
      rw [show (1 : Int).toNat = 1 from rfl, Pt.tm_one] at h1
      exact same_true h1 p
    · have h1 := rep_tim (K := 7237005577332262213973186563042994240857116359379907606001950938285454250989) ⟨by decide, by decide⟩ rep_base
      rw [show (7237005577332262213973186563042994240857116359379907606001950938285454250989 : Int).toNat = elN from rfl, el_base] at h1
      exact same_true h1 rep_id
end Go.Proofs.Ytlbofcgjdbfenaa
