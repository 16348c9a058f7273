import Derived.Test.YtlbofcgjdbfenaaEdMAll
import Derived.Test.YtlbofcgjdbfenaaEvAll
set_option linter.unusedSimpArgs false
set_option linter.unusedVariables false
/-! Points so many times: loops over the bits. -/
namespace Go.Proofs.Ytlbofcgjdbfenaa
open Go.RowKit Go.Ev
theorem wrp (n : Int) (h0 : -9223372036854775808 ≤ n) (h1 : n ≤ 9223372036854775807) : IntKind.i64.wrap n = n := by rw [IntKind.wrap_i64]; omega
theorem w_quo {i : Int} (h : 0 ≤ i ∧ i < 256) : IntKind.i64.wrap (Int.tdiv i 8) = i / 8 := by
  rw [Int.tdiv_eq_ediv_of_nonneg h.1]
  exact wrp _ (by omega) (by omega)
theorem w_rem {i : Int} (h : 0 ≤ i ∧ i < 256) : Int.tmod i 8 = i % 8 := Int.tmod_eq_emod_of_nonneg h.1
theorem w_add {i : Int} (h : 0 ≤ i ∧ i < 256) : IntKind.i64.wrap (i + 1) = i + 1 := wrp _ (by omega) (by omega)
theorem w_sub {i : Int} (h : 0 ≤ i ∧ i < 256) : IntKind.i64.wrap (i - 1) = i - 1 := wrp _ (by omega) (by omega)
theorem w_ld (K : Int) {i : Int} (h : 0 ≤ i ∧ i < 256) : (byC K)[(0 + Int.toNat (i / 8) * 1)]? = some (.int .u8 (byt K (i / 8).toNat)) := by
  rw [Nat.zero_add, Nat.mul_one]
  exact byC_at K _ (by omega)
theorem w_i8 {i : Int} (h : 0 ≤ i ∧ i < 256) : 0 ≤ i / 8 ∧ i / 8 < ((32 : Nat) : Int) := by omega
theorem w_m8 {i : Int} (h : 0 ≤ i ∧ i < 256) : 0 ≤ i % 8 := by omega
/-- A number's bit. -/
def bitK (K : Int) (n : Nat) : Int := K / 2 ^ n % 2
theorem bit_tab : (List.range 256).all (fun i => decide (bits .and .u8 (i : Int) 1 = (i : Int) % 2)) = true := by kernel_rfl
theorem and_1 (x : Int) (h0 : 0 ≤ x) (h1 : x < 256) : bits .and .u8 x 1 = x % 2 := by
  have := List.all_eq_true.1 bit_tab x.toNat (List.mem_range.2 (by omega))
  simp only [decide_eq_true_eq] at this
  rwa [Int.toNat_of_nonneg h0] at this
theorem bit_of (K : Int) {i : Int} (h : 0 ≤ i ∧ i < 256) : byt K (i / 8).toNat / 2 ^ (min (Int.toNat (i % 8)) 8) % 2 = bitK K i.toNat ∧ 0 ≤ byt K (i / 8).toNat / 2 ^ (min (Int.toNat (i % 8)) 8) ∧ byt K (i / 8).toNat / 2 ^ (min (Int.toNat (i % 8)) 8) < 256 := by
  obtain ⟨q, hq⟩ : ∃ q : Nat, q = (i / 8).toNat := ⟨_, rfl⟩
  obtain ⟨r, hr⟩ : ∃ r : Nat, r = (i % 8).toNat := ⟨_, rfl⟩
  rw [← hq, ← hr]
  have hi : i.toNat = 8 * q + r := by omega
  have hr8 : r < 8 := by omega
  rw [hi, Nat.min_eq_left (by omega)]
  have hb := byt_bd K q
  have e : bitK K (8 * q + r) = K / 256 ^ q / 2 ^ r % 2 := by
    unfold bitK
    rw [Int.pow_add, Int.pow_mul, show ((2 : Int) ^ 8) = 256 by decide, Int.ediv_ediv_of_nonneg (Int.le_of_lt (Int.pow_pos (by omega)))]
  rw [e]
  unfold byt at hb ⊢
  generalize K / 256 ^ q = x at hb ⊢
  match r, hr8 with
  | 0, _ => simp only [Int.pow_zero]; omega
  | 1, _ => simp only [show ((2 : Int) ^ 1) = 2 by decide]; omega
  | 2, _ => simp only [show ((2 : Int) ^ 2) = 4 by decide]; omega
  | 3, _ => simp only [show ((2 : Int) ^ 3) = 8 by decide]; omega
  | 4, _ => simp only [show ((2 : Int) ^ 4) = 16 by decide]; omega
  | 5, _ => simp only [show ((2 : Int) ^ 5) = 32 by decide]; omega
  | 6, _ => simp only [show ((2 : Int) ^ 6) = 64 by decide]; omega
  | 7, _ => simp only [show ((2 : Int) ^ 7) = 128 by decide]; omega
theorem w_and (K : Int) {i : Int} (h : 0 ≤ i ∧ i < 256) : bits .and .u8 (byt K (i / 8).toNat / 2 ^ (min (Int.toNat (i % 8)) 8)) 1 = bitK K i.toNat := by
  obtain ⟨h1, h2, h3⟩ := bit_of K h
  rw [and_1 _ h2 h3, h1]
theorem w_mod2 (K : Int) {i : Int} (h : 0 ≤ i ∧ i < 256) : Int.tmod (byt K (i / 8).toNat / 2 ^ (min (Int.toNat (i % 8)) 8)) 2 = bitK K i.toNat := by
  obtain ⟨h1, h2, h3⟩ := bit_of K h
  rw [Int.tmod_eq_emod_of_nonneg h2, h1]

def tim_A_h (i : Nat) : Hn := ⟨0, [], [], [], []⟩
theorem tim_A_0 (K : Int) (p : P4)  : evC (yty.en tab6) tim_A_h (cAt [0] (bdy Try.f12)) ⟨[.agg (byC K), .agg (ptC p), undef, undef, undef, undef, undef, undef, undef, undef, undef, undef, undef, undef, undef, undef, undef, undef, undef, undef, undef, undef, undef, undef, undef, undef, undef], [], True, []⟩ = some (.normal, ⟨[.agg (byC K), .agg (ptC p), .pointer (some ⟨0, 0, none⟩), .pointer (some ⟨1, 0, none⟩), .pointer (some ⟨2, 0, none⟩), undef, undef, undef, undef, undef, undef, undef, undef, undef, undef, undef, undef, undef, undef, undef, undef, undef, undef, undef, undef, undef, undef], [((byC K), 23), ((ptC p), 30), ((ptC (⟨0, 0, 0, 0⟩ : P4)), 30)], True, []⟩) := by kernel_rfl
theorem tim_A_r (K : Int) (p : P4)  (hK : Ok K) (hp : Ok4 p)  {c0 : Prop} {ch0 : List (Option Value)} : Runs Try.prog (cAt [0] (bdy Try.f12)) ⟨[.agg (byC K), .agg (ptC p), undef, undef, undef, undef, undef, undef, undef, undef, undef, undef, undef, undef, undef, undef, undef, undef, undef, undef, undef, undef, undef, undef, undef, undef, undef], [], c0, ch0⟩ (fun e s => e = .normal ∧ ∃ c ch, s = ⟨[.agg (byC K), .agg (ptC p), .pointer (some ⟨0, 0, none⟩), .pointer (some ⟨1, 0, none⟩), .pointer (some ⟨2, 0, none⟩), undef, undef, undef, undef, undef, undef, undef, undef, undef, undef, undef, undef, undef, undef, undef, undef, undef, undef, undef, undef, undef, undef], [((byC K), 23), ((ptC p), 30), ((ptC (⟨0, 0, 0, 0⟩ : P4)), 30)], c, ch⟩) := by
  refine (runs_ev mixed [] (tim_A_0 K p ) trivial).mono ?_
  rintro e s ⟨rfl, rfl⟩
  exact ⟨rfl, _, _, rfl⟩
def tim_B_h (i : Nat) : Hn := ⟨0, [], [], [], []⟩
theorem tim_B_0 (K : Int) (p : P4)  : evC (yty.en tab6) tim_B_h (cAt [1, 0] (bdy Try.f12)) ⟨[.agg (byC K), .agg (ptC p), .pointer (some ⟨0, 0, none⟩), .pointer (some ⟨1, 0, none⟩), .pointer (some ⟨2, 0, none⟩), undef, undef, undef, undef, undef, undef, undef, undef, undef, undef, undef, undef, undef, undef, undef, undef, undef, undef, undef, undef, undef, undef], [((byC K), 23), ((ptC p), 30), ((ptC (⟨0, 0, 0, 0⟩ : P4)), 30)], True, []⟩ = some (.normal, ⟨[.agg (byC K), .agg (ptC p), .pointer (some ⟨0, 0, none⟩), .pointer (some ⟨1, 0, none⟩), .pointer (some ⟨2, 0, none⟩), .pointer (some ⟨3, 0, none⟩), undef, .agg (ptC (ofP 0 1)), undef, undef, undef, undef, undef, undef, undef, undef, undef, undef, undef, undef, undef, undef, undef, undef, undef, undef, undef], [((byC K), 23), ((ptC p), 30), ((ptC (⟨0, 0, 0, 0⟩ : P4)), 30), ((ptC (ofP 0 1)), 30)], ((True ∧ True) ∧ ((ptC (ofP 0 1)).all (fun v => v.oneCell') = true)), []⟩) := by kernel_rfl
theorem tim_B_r (K : Int) (p : P4)  (hK : Ok K) (hp : Ok4 p)  {c0 : Prop} {ch0 : List (Option Value)} : Runs Try.prog (cAt [1, 0] (bdy Try.f12)) ⟨[.agg (byC K), .agg (ptC p), .pointer (some ⟨0, 0, none⟩), .pointer (some ⟨1, 0, none⟩), .pointer (some ⟨2, 0, none⟩), undef, undef, undef, undef, undef, undef, undef, undef, undef, undef, undef, undef, undef, undef, undef, undef, undef, undef, undef, undef, undef, undef], [((byC K), 23), ((ptC p), 30), ((ptC (⟨0, 0, 0, 0⟩ : P4)), 30)], c0, ch0⟩ (fun e s => e = .normal ∧ ∃ c ch, s = ⟨[.agg (byC K), .agg (ptC p), .pointer (some ⟨0, 0, none⟩), .pointer (some ⟨1, 0, none⟩), .pointer (some ⟨2, 0, none⟩), .pointer (some ⟨3, 0, none⟩), undef, .agg (ptC (ofP 0 1)), undef, undef, undef, undef, undef, undef, undef, undef, undef, undef, undef, undef, undef, undef, undef, undef, undef, undef, undef], [((byC K), 23), ((ptC p), 30), ((ptC (⟨0, 0, 0, 0⟩ : P4)), 30), ((ptC (ofP 0 1)), 30)], c, ch⟩) := by
  refine (runs_ev mixed [] (tim_B_0 K p ) ⟨⟨trivial, trivial⟩, ptC_one _⟩).mono ?_
  rintro e s ⟨rfl, rfl⟩
  exact ⟨rfl, _, _, rfl⟩
def tim_C_h (i : Nat) : Hn := ⟨0, [], [], [], []⟩
theorem tim_C_0 (K : Int) (p : P4)  : evC (yty.en tab6) tim_C_h (cAt [1, 1, 0, 0] (bdy Try.f12)) ⟨[.agg (byC K), .agg (ptC p), .pointer (some ⟨0, 0, none⟩), .pointer (some ⟨1, 0, none⟩), .pointer (some ⟨2, 0, none⟩), .pointer (some ⟨3, 0, none⟩), undef, .agg (ptC (ofP 0 1)), undef, undef, undef, undef, undef, undef, undef, undef, undef, undef, undef, undef, undef, undef, undef, undef, undef, undef, undef], [((byC K), 23), ((ptC p), 30), ((ptC (⟨0, 0, 0, 0⟩ : P4)), 30), ((ptC (ofP 0 1)), 30)], True, []⟩ = some (.normal, ⟨[.agg (byC K), .agg (ptC p), .pointer (some ⟨0, 0, none⟩), .pointer (some ⟨1, 0, none⟩), .pointer (some ⟨2, 0, none⟩), .pointer (some ⟨3, 0, none⟩), undef, .agg (ptC (ofP 0 1)), .int .i64 0, undef, undef, undef, undef, undef, undef, undef, undef, undef, undef, undef, undef, undef, undef, undef, undef, undef, undef], [((byC K), 23), ((ptC p), 30), ((ptC (⟨0, 0, 0, 0⟩ : P4)), 30), ((ptC (ofP 0 1)), 30)], (True ∧ True), []⟩) := by kernel_rfl
theorem tim_C_r (K : Int) (p : P4)  (hK : Ok K) (hp : Ok4 p)  {c0 : Prop} {ch0 : List (Option Value)} : Runs Try.prog (cAt [1, 1, 0, 0] (bdy Try.f12)) ⟨[.agg (byC K), .agg (ptC p), .pointer (some ⟨0, 0, none⟩), .pointer (some ⟨1, 0, none⟩), .pointer (some ⟨2, 0, none⟩), .pointer (some ⟨3, 0, none⟩), undef, .agg (ptC (ofP 0 1)), undef, undef, undef, undef, undef, undef, undef, undef, undef, undef, undef, undef, undef, undef, undef, undef, undef, undef, undef], [((byC K), 23), ((ptC p), 30), ((ptC (⟨0, 0, 0, 0⟩ : P4)), 30), ((ptC (ofP 0 1)), 30)], c0, ch0⟩ (fun e s => e = .normal ∧ ∃ c ch, s = ⟨[.agg (byC K), .agg (ptC p), .pointer (some ⟨0, 0, none⟩), .pointer (some ⟨1, 0, none⟩), .pointer (some ⟨2, 0, none⟩), .pointer (some ⟨3, 0, none⟩), undef, .agg (ptC (ofP 0 1)), .int .i64 0, undef, undef, undef, undef, undef, undef, undef, undef, undef, undef, undef, undef, undef, undef, undef, undef, undef, undef], [((byC K), 23), ((ptC p), 30), ((ptC (⟨0, 0, 0, 0⟩ : P4)), 30), ((ptC (ofP 0 1)), 30)], c, ch⟩) := by
  refine (runs_ev mixed [] (tim_C_0 K p ) ⟨trivial, trivial⟩).mono ?_
  rintro e s ⟨rfl, rfl⟩
  exact ⟨rfl, _, _, rfl⟩
def tim_T_h (i : Nat) : Hn := ⟨0, [], [], [], []⟩
theorem tim_T_0 (K i : Int) (p Q S : P4) (j6 j9 j10 j11 j12 j13 j14 j15 j16 j17 j18 j19 j20 j21 j22 j23 j24 j25 j26 : Value) : evC (yty.en tab6) tim_T_h (cAt [1, 1, 0, 1, 0, 0] (bdy Try.f12)) ⟨[.agg (byC K), .agg (ptC p), .pointer (some ⟨0, 0, none⟩), .pointer (some ⟨1, 0, none⟩), .pointer (some ⟨2, 0, none⟩), .pointer (some ⟨3, 0, none⟩), j6, .agg (ptC (ofP 0 1)), .int .i64 i, j9, j10, j11, j12, j13, j14, j15, j16, j17, j18, j19, j20, j21, j22, j23, j24, j25, j26], [((byC K), 23), ((ptC Q), 30), ((ptC (⟨0, 0, 0, 0⟩ : P4)), 30), ((ptC S), 30)], True, [some (.bool true), some (.int .i64 (i / 8)), some (.int .u8 (byt K (i / 8).toNat)), some (.int .i64 (i % 8)), none, some (.int .u8 (bitK K i.toNat)), some (.bool true), some (.int .i64 (i + 1))]⟩ = some (.normal, ⟨[.agg (byC K), .agg (ptC p), .pointer (some ⟨0, 0, none⟩), .pointer (some ⟨1, 0, none⟩), .pointer (some ⟨2, 0, none⟩), .pointer (some ⟨3, 0, none⟩), .int .i64 i, .agg (ptC (ofP 0 1)), .int .i64 (i + 1), .bool true, .int .i64 i, .int .i64 i, .int .i64 (i / 8), .pointer (some ⟨0, 0 + Int.toNat (i / 8) * 1, none⟩), .int .u8 (byt K (i / 8).toNat), .int .i64 i, .int .i64 (i % 8), .int .u8 ((byt K (i / 8).toNat) / 2 ^ (min (Int.toNat (i % 8)) 8)), .int .u8 (bitK K i.toNat), .bool true, .agg (ptC S), .agg (ptC Q), .agg (ptC (addP (dp (ptC S)) (dp (ptC Q)))), .agg (ptC Q), .agg (ptC (dblP (dp (ptC Q)))), .int .i64 (i + 1), j26], [((byC K), 23), ((ptC (dblP (dp (ptC Q)))), 30), ((ptC (⟨0, 0, 0, 0⟩ : P4)), 30), ((ptC (addP (dp (ptC S)) (dp (ptC Q)))), 30)], (((((((((((((((((((((True ∧ (True ∧ (decide (i < 256)) = true)) ∧ True) ∧ True) ∧ True) ∧ (((8 : Int) ≠ 0) ∧ (IntKind.i64.wrap (Int.tdiv i 8)) = (i / 8))) ∧ (0 ≤ (i / 8) ∧ (i / 8) < ((32 : Nat) : Int))) ∧ (((byC K)[(0 + Int.toNat (i / 8) * 1)]? = some (.int .u8 (byt K (i / 8).toNat))) ∧ (byt K (i / 8).toNat) = (byt K (i / 8).toNat))) ∧ True) ∧ (((8 : Int) ≠ 0) ∧ (Int.tmod i 8) = (i % 8))) ∧ (0 ≤ (i % 8))) ∧ (True ∧ (bits .and .u8 ((byt K (i / 8).toNat) / 2 ^ (min (Int.toNat (i % 8)) 8)) 1) = (bitK K i.toNat))) ∧ (True ∧ (decide ((bitK K i.toNat) = 1)) = true)) ∧ True) ∧ True) ∧ (ptD.is (ptC S) ∧ ptD.is (ptC Q))) ∧ ((ptC (addP (dp (ptC S)) (dp (ptC Q)))).all (fun v => v.oneCell') = true)) ∧ True) ∧ ptD.is (ptC Q)) ∧ ((ptC (dblP (dp (ptC Q)))).all (fun v => v.oneCell') = true)) ∧ (True ∧ (IntKind.i64.wrap (i + 1)) = (i + 1))) ∧ True), []⟩) := by kernel_rfl
theorem tim_T_r (K i : Int) (p Q S : P4) (j6 j9 j10 j11 j12 j13 j14 j15 j16 j17 j18 j19 j20 j21 j22 j23 j24 j25 j26 : Value) (hK : Ok K) (hp : Ok4 p) (hQ : Ok4 Q) (hS : Ok4 S) (hi : 0 ≤ i ∧ i < 256) (h0 : (decide (i < 256)) = true) (h1 : (decide ((bitK K i.toNat) = 1)) = true) {c0 : Prop} {ch0 : List (Option Value)} : Runs Try.prog (cAt [1, 1, 0, 1, 0, 0] (bdy Try.f12)) ⟨[.agg (byC K), .agg (ptC p), .pointer (some ⟨0, 0, none⟩), .pointer (some ⟨1, 0, none⟩), .pointer (some ⟨2, 0, none⟩), .pointer (some ⟨3, 0, none⟩), j6, .agg (ptC (ofP 0 1)), .int .i64 i, j9, j10, j11, j12, j13, j14, j15, j16, j17, j18, j19, j20, j21, j22, j23, j24, j25, j26], [((byC K), 23), ((ptC Q), 30), ((ptC (⟨0, 0, 0, 0⟩ : P4)), 30), ((ptC S), 30)], c0, ch0⟩ (fun e s => e = .normal ∧ ∃ c ch, s = ⟨[.agg (byC K), .agg (ptC p), .pointer (some ⟨0, 0, none⟩), .pointer (some ⟨1, 0, none⟩), .pointer (some ⟨2, 0, none⟩), .pointer (some ⟨3, 0, none⟩), .int .i64 i, .agg (ptC (ofP 0 1)), .int .i64 (i + 1), .bool true, .int .i64 i, .int .i64 i, .int .i64 (i / 8), .pointer (some ⟨0, 0 + Int.toNat (i / 8) * 1, none⟩), .int .u8 (byt K (i / 8).toNat), .int .i64 i, .int .i64 (i % 8), .int .u8 ((byt K (i / 8).toNat) / 2 ^ (min (Int.toNat (i % 8)) 8)), .int .u8 (bitK K i.toNat), .bool true, .agg (ptC S), .agg (ptC Q), .agg (ptC (addP (dp (ptC S)) (dp (ptC Q)))), .agg (ptC Q), .agg (ptC (dblP (dp (ptC Q)))), .int .i64 (i + 1), j26], [((byC K), 23), ((ptC (dblP (dp (ptC Q)))), 30), ((ptC (⟨0, 0, 0, 0⟩ : P4)), 30), ((ptC (addP (dp (ptC S)) (dp (ptC Q)))), 30)], c, ch⟩) := by
  refine (runs_ev mixed [some (.bool true), some (.int .i64 (i / 8)), some (.int .u8 (byt K (i / 8).toNat)), some (.int .i64 (i % 8)), none, some (.int .u8 (bitK K i.toNat)), some (.bool true), some (.int .i64 (i + 1))] (tim_T_0 K i p Q S j6 j9 j10 j11 j12 j13 j14 j15 j16 j17 j18 j19 j20 j21 j22 j23 j24 j25 j26) ⟨⟨⟨⟨⟨⟨⟨⟨⟨⟨⟨⟨⟨⟨⟨⟨⟨⟨⟨⟨⟨trivial, ⟨trivial, h0⟩⟩, trivial⟩, trivial⟩, trivial⟩, ⟨(by decide), w_quo hi⟩⟩, w_i8 hi⟩, ⟨w_ld K hi, rfl⟩⟩, trivial⟩, ⟨(by decide), w_rem hi⟩⟩, w_m8 hi⟩, ⟨trivial, w_and K hi⟩⟩, ⟨trivial, h1⟩⟩, trivial⟩, trivial⟩, ⟨(ptD.is_enc (hS)), (ptD.is_enc (hQ))⟩⟩, ptC_one _⟩, trivial⟩, (ptD.is_enc (hQ))⟩, ptC_one _⟩, ⟨trivial, w_add hi⟩⟩, trivial⟩).mono ?_
  rintro e s ⟨rfl, rfl⟩
  exact ⟨rfl, _, _, rfl⟩
def tim_F_h (i : Nat) : Hn := ⟨0, [], [], [], []⟩
theorem tim_F_0 (K i : Int) (p Q S : P4) (j6 j9 j10 j11 j12 j13 j14 j15 j16 j17 j18 j19 j20 j21 j22 j23 j24 j25 j26 : Value) : evC (yty.en tab6) tim_F_h (cAt [1, 1, 0, 1, 0, 0] (bdy Try.f12)) ⟨[.agg (byC K), .agg (ptC p), .pointer (some ⟨0, 0, none⟩), .pointer (some ⟨1, 0, none⟩), .pointer (some ⟨2, 0, none⟩), .pointer (some ⟨3, 0, none⟩), j6, .agg (ptC (ofP 0 1)), .int .i64 i, j9, j10, j11, j12, j13, j14, j15, j16, j17, j18, j19, j20, j21, j22, j23, j24, j25, j26], [((byC K), 23), ((ptC Q), 30), ((ptC (⟨0, 0, 0, 0⟩ : P4)), 30), ((ptC S), 30)], True, [some (.bool true), some (.int .i64 (i / 8)), some (.int .u8 (byt K (i / 8).toNat)), some (.int .i64 (i % 8)), none, some (.int .u8 (bitK K i.toNat)), some (.bool false), some (.int .i64 (i + 1))]⟩ = some (.normal, ⟨[.agg (byC K), .agg (ptC p), .pointer (some ⟨0, 0, none⟩), .pointer (some ⟨1, 0, none⟩), .pointer (some ⟨2, 0, none⟩), .pointer (some ⟨3, 0, none⟩), .int .i64 i, .agg (ptC (ofP 0 1)), .int .i64 (i + 1), .bool true, .int .i64 i, .int .i64 i, .int .i64 (i / 8), .pointer (some ⟨0, 0 + Int.toNat (i / 8) * 1, none⟩), .int .u8 (byt K (i / 8).toNat), .int .i64 i, .int .i64 (i % 8), .int .u8 ((byt K (i / 8).toNat) / 2 ^ (min (Int.toNat (i % 8)) 8)), .int .u8 (bitK K i.toNat), .bool false, j20, j21, j22, .agg (ptC Q), .agg (ptC (dblP (dp (ptC Q)))), .int .i64 (i + 1), j26], [((byC K), 23), ((ptC (dblP (dp (ptC Q)))), 30), ((ptC (⟨0, 0, 0, 0⟩ : P4)), 30), ((ptC S), 30)], (((((((((((((((((True ∧ (True ∧ (decide (i < 256)) = true)) ∧ True) ∧ True) ∧ True) ∧ (((8 : Int) ≠ 0) ∧ (IntKind.i64.wrap (Int.tdiv i 8)) = (i / 8))) ∧ (0 ≤ (i / 8) ∧ (i / 8) < ((32 : Nat) : Int))) ∧ (((byC K)[(0 + Int.toNat (i / 8) * 1)]? = some (.int .u8 (byt K (i / 8).toNat))) ∧ (byt K (i / 8).toNat) = (byt K (i / 8).toNat))) ∧ True) ∧ (((8 : Int) ≠ 0) ∧ (Int.tmod i 8) = (i % 8))) ∧ (0 ≤ (i % 8))) ∧ (True ∧ (bits .and .u8 ((byt K (i / 8).toNat) / 2 ^ (min (Int.toNat (i % 8)) 8)) 1) = (bitK K i.toNat))) ∧ (True ∧ (decide ((bitK K i.toNat) = 1)) = false)) ∧ True) ∧ ptD.is (ptC Q)) ∧ ((ptC (dblP (dp (ptC Q)))).all (fun v => v.oneCell') = true)) ∧ (True ∧ (IntKind.i64.wrap (i + 1)) = (i + 1))) ∧ True), []⟩) := by kernel_rfl
theorem tim_F_r (K i : Int) (p Q S : P4) (j6 j9 j10 j11 j12 j13 j14 j15 j16 j17 j18 j19 j20 j21 j22 j23 j24 j25 j26 : Value) (hK : Ok K) (hp : Ok4 p) (hQ : Ok4 Q) (hS : Ok4 S) (hi : 0 ≤ i ∧ i < 256) (h0 : (decide (i < 256)) = true) (h1 : (decide ((bitK K i.toNat) = 1)) = false) {c0 : Prop} {ch0 : List (Option Value)} : Runs Try.prog (cAt [1, 1, 0, 1, 0, 0] (bdy Try.f12)) ⟨[.agg (byC K), .agg (ptC p), .pointer (some ⟨0, 0, none⟩), .pointer (some ⟨1, 0, none⟩), .pointer (some ⟨2, 0, none⟩), .pointer (some ⟨3, 0, none⟩), j6, .agg (ptC (ofP 0 1)), .int .i64 i, j9, j10, j11, j12, j13, j14, j15, j16, j17, j18, j19, j20, j21, j22, j23, j24, j25, j26], [((byC K), 23), ((ptC Q), 30), ((ptC (⟨0, 0, 0, 0⟩ : P4)), 30), ((ptC S), 30)], c0, ch0⟩ (fun e s => e = .normal ∧ ∃ c ch, s = ⟨[.agg (byC K), .agg (ptC p), .pointer (some ⟨0, 0, none⟩), .pointer (some ⟨1, 0, none⟩), .pointer (some ⟨2, 0, none⟩), .pointer (some ⟨3, 0, none⟩), .int .i64 i, .agg (ptC (ofP 0 1)), .int .i64 (i + 1), .bool true, .int .i64 i, .int .i64 i, .int .i64 (i / 8), .pointer (some ⟨0, 0 + Int.toNat (i / 8) * 1, none⟩), .int .u8 (byt K (i / 8).toNat), .int .i64 i, .int .i64 (i % 8), .int .u8 ((byt K (i / 8).toNat) / 2 ^ (min (Int.toNat (i % 8)) 8)), .int .u8 (bitK K i.toNat), .bool false, j20, j21, j22, .agg (ptC Q), .agg (ptC (dblP (dp (ptC Q)))), .int .i64 (i + 1), j26], [((byC K), 23), ((ptC (dblP (dp (ptC Q)))), 30), ((ptC (⟨0, 0, 0, 0⟩ : P4)), 30), ((ptC S), 30)], c, ch⟩) := by
  refine (runs_ev mixed [some (.bool true), some (.int .i64 (i / 8)), some (.int .u8 (byt K (i / 8).toNat)), some (.int .i64 (i % 8)), none, some (.int .u8 (bitK K i.toNat)), some (.bool false), some (.int .i64 (i + 1))] (tim_F_0 K i p Q S j6 j9 j10 j11 j12 j13 j14 j15 j16 j17 j18 j19 j20 j21 j22 j23 j24 j25 j26) ⟨⟨⟨⟨⟨⟨⟨⟨⟨⟨⟨⟨⟨⟨⟨⟨⟨trivial, ⟨trivial, h0⟩⟩, trivial⟩, trivial⟩, trivial⟩, ⟨(by decide), w_quo hi⟩⟩, w_i8 hi⟩, ⟨w_ld K hi, rfl⟩⟩, trivial⟩, ⟨(by decide), w_rem hi⟩⟩, w_m8 hi⟩, ⟨trivial, w_and K hi⟩⟩, ⟨trivial, h1⟩⟩, trivial⟩, (ptD.is_enc (hQ))⟩, ptC_one _⟩, ⟨trivial, w_add hi⟩⟩, trivial⟩).mono ?_
  rintro e s ⟨rfl, rfl⟩
  exact ⟨rfl, _, _, rfl⟩
def tim_E_h (i : Nat) : Hn := ⟨0, [], [], [], []⟩
theorem tim_E_0 (K i : Int) (p Q S : P4) (j6 j9 j10 j11 j12 j13 j14 j15 j16 j17 j18 j19 j20 j21 j22 j23 j24 j25 j26 : Value) : evC (yty.en tab6) tim_E_h (cAt [1, 1, 0, 1, 0, 0] (bdy Try.f12)) ⟨[.agg (byC K), .agg (ptC p), .pointer (some ⟨0, 0, none⟩), .pointer (some ⟨1, 0, none⟩), .pointer (some ⟨2, 0, none⟩), .pointer (some ⟨3, 0, none⟩), j6, .agg (ptC (ofP 0 1)), .int .i64 i, j9, j10, j11, j12, j13, j14, j15, j16, j17, j18, j19, j20, j21, j22, j23, j24, j25, j26], [((byC K), 23), ((ptC Q), 30), ((ptC (⟨0, 0, 0, 0⟩ : P4)), 30), ((ptC S), 30)], True, [some (.bool false)]⟩ = some ((.exit 0), ⟨[.agg (byC K), .agg (ptC p), .pointer (some ⟨0, 0, none⟩), .pointer (some ⟨1, 0, none⟩), .pointer (some ⟨2, 0, none⟩), .pointer (some ⟨3, 0, none⟩), j6, .agg (ptC (ofP 0 1)), .int .i64 i, .bool false, j10, j11, j12, j13, j14, j15, j16, j17, j18, j19, j20, j21, j22, j23, j24, j25, j26], [((byC K), 23), ((ptC Q), 30), ((ptC (⟨0, 0, 0, 0⟩ : P4)), 30), ((ptC S), 30)], (True ∧ (True ∧ (decide (i < 256)) = false)), []⟩) := by kernel_rfl
theorem tim_E_r (K i : Int) (p Q S : P4) (j6 j9 j10 j11 j12 j13 j14 j15 j16 j17 j18 j19 j20 j21 j22 j23 j24 j25 j26 : Value) (hK : Ok K) (hp : Ok4 p) (hQ : Ok4 Q) (hS : Ok4 S) (h0 : (decide (i < 256)) = false) {c0 : Prop} {ch0 : List (Option Value)} : Runs Try.prog (cAt [1, 1, 0, 1, 0, 0] (bdy Try.f12)) ⟨[.agg (byC K), .agg (ptC p), .pointer (some ⟨0, 0, none⟩), .pointer (some ⟨1, 0, none⟩), .pointer (some ⟨2, 0, none⟩), .pointer (some ⟨3, 0, none⟩), j6, .agg (ptC (ofP 0 1)), .int .i64 i, j9, j10, j11, j12, j13, j14, j15, j16, j17, j18, j19, j20, j21, j22, j23, j24, j25, j26], [((byC K), 23), ((ptC Q), 30), ((ptC (⟨0, 0, 0, 0⟩ : P4)), 30), ((ptC S), 30)], c0, ch0⟩ (fun e s => e = (.exit 0) ∧ ∃ c ch, s = ⟨[.agg (byC K), .agg (ptC p), .pointer (some ⟨0, 0, none⟩), .pointer (some ⟨1, 0, none⟩), .pointer (some ⟨2, 0, none⟩), .pointer (some ⟨3, 0, none⟩), j6, .agg (ptC (ofP 0 1)), .int .i64 i, .bool false, j10, j11, j12, j13, j14, j15, j16, j17, j18, j19, j20, j21, j22, j23, j24, j25, j26], [((byC K), 23), ((ptC Q), 30), ((ptC (⟨0, 0, 0, 0⟩ : P4)), 30), ((ptC S), 30)], c, ch⟩) := by
  refine (runs_ev mixed [some (.bool false)] (tim_E_0 K i p Q S j6 j9 j10 j11 j12 j13 j14 j15 j16 j17 j18 j19 j20 j21 j22 j23 j24 j25 j26) ⟨trivial, ⟨trivial, h0⟩⟩).mono ?_
  rintro e s ⟨rfl, rfl⟩
  exact ⟨rfl, _, _, rfl⟩
def tim_Z_h (i : Nat) : Hn := ⟨0, [], [], [], []⟩
theorem tim_Z_0 (K i : Int) (p Q S : P4) (j6 j9 j10 j11 j12 j13 j14 j15 j16 j17 j18 j19 j20 j21 j22 j23 j24 j25 j26 : Value) : evC (yty.en tab6) tim_Z_h (cAt [1, 1, 1] (bdy Try.f12)) ⟨[.agg (byC K), .agg (ptC p), .pointer (some ⟨0, 0, none⟩), .pointer (some ⟨1, 0, none⟩), .pointer (some ⟨2, 0, none⟩), .pointer (some ⟨3, 0, none⟩), j6, .agg (ptC (ofP 0 1)), .int .i64 i, j9, j10, j11, j12, j13, j14, j15, j16, j17, j18, j19, j20, j21, j22, j23, j24, j25, j26], [((byC K), 23), ((ptC Q), 30), ((ptC (⟨0, 0, 0, 0⟩ : P4)), 30), ((ptC S), 30)], True, []⟩ = some (.ret, ⟨[.agg (byC K), .agg (ptC p), .pointer (some ⟨0, 0, none⟩), .pointer (some ⟨1, 0, none⟩), .pointer (some ⟨2, 0, none⟩), .pointer (some ⟨3, 0, none⟩), j6, .agg (ptC (ofP 0 1)), .int .i64 i, j9, j10, j11, j12, j13, j14, j15, j16, j17, j18, j19, j20, j21, j22, j23, j24, j25, .agg (ptC S)], [((byC K), 23), ((ptC Q), 30), ((ptC S), 30), ((ptC S), 30)], ((True ∧ True) ∧ ((ptC S).all (fun v => v.oneCell') = true)), []⟩) := by kernel_rfl
theorem tim_Z_r (K i : Int) (p Q S : P4) (j6 j9 j10 j11 j12 j13 j14 j15 j16 j17 j18 j19 j20 j21 j22 j23 j24 j25 j26 : Value) (hK : Ok K) (hp : Ok4 p) (hQ : Ok4 Q) (hS : Ok4 S)  {c0 : Prop} {ch0 : List (Option Value)} : Runs Try.prog (cAt [1, 1, 1] (bdy Try.f12)) ⟨[.agg (byC K), .agg (ptC p), .pointer (some ⟨0, 0, none⟩), .pointer (some ⟨1, 0, none⟩), .pointer (some ⟨2, 0, none⟩), .pointer (some ⟨3, 0, none⟩), j6, .agg (ptC (ofP 0 1)), .int .i64 i, j9, j10, j11, j12, j13, j14, j15, j16, j17, j18, j19, j20, j21, j22, j23, j24, j25, j26], [((byC K), 23), ((ptC Q), 30), ((ptC (⟨0, 0, 0, 0⟩ : P4)), 30), ((ptC S), 30)], c0, ch0⟩ (fun e s => e = .ret ∧ ∃ c ch, s = ⟨[.agg (byC K), .agg (ptC p), .pointer (some ⟨0, 0, none⟩), .pointer (some ⟨1, 0, none⟩), .pointer (some ⟨2, 0, none⟩), .pointer (some ⟨3, 0, none⟩), j6, .agg (ptC (ofP 0 1)), .int .i64 i, j9, j10, j11, j12, j13, j14, j15, j16, j17, j18, j19, j20, j21, j22, j23, j24, j25, .agg (ptC S)], [((byC K), 23), ((ptC Q), 30), ((ptC S), 30), ((ptC S), 30)], c, ch⟩) := by
  refine (runs_ev mixed [] (tim_Z_0 K i p Q S j6 j9 j10 j11 j12 j13 j14 j15 j16 j17 j18 j19 j20 j21 j22 j23 j24 j25 j26) ⟨⟨trivial, trivial⟩, ptC_one _⟩).mono ?_
  rintro e s ⟨rfl, rfl⟩
  exact ⟨rfl, _, _, rfl⟩
theorem tim_shape : bdy Try.f12 = .seq (cAt [0] (bdy Try.f12)) (.seq (cAt [1, 0] (bdy Try.f12)) (.seq (.seq (cAt [1, 1, 0, 0] (bdy Try.f12)) (.block 0 (.loop (cAt [1, 1, 0, 1, 0, 0] (bdy Try.f12))))) (cAt [1, 1, 1] (bdy Try.f12)))) := by kernel_rfl
/-- The point doubled so often; the sum so far. -/
def timQ (p : P4) : Nat → P4
  | 0 => p
  | n + 1 => dblP (timQ p n)
def timS (K : Int) (p : P4) : Nat → P4
  | 0 => ofP 0 1
  | n + 1 => cond (decide (bitK K n = 1)) (addP (timS K p n) (timQ p n)) (timS K p n)
theorem ok_timQ {p : P4} (hp : Ok4 p) : ∀ n, Ok4 (timQ p n)
  | 0 => hp
  | n + 1 => ok4_dbl _
theorem ok_timS (K : Int) (p : P4) : ∀ n, Ok4 (timS K p n)
  | 0 => ok4_id
  | n + 1 => by
    unfold timS
    cases decide (bitK K n = 1) with
    | true => exact ok4_add _ _
    | false => exact ok_timS K p n
def timT (K : Int) (p : P4) (n : Nat) (j : Nat → Value) : List Value := [.agg (byC K), .agg (ptC p), .pointer (some ⟨0, 0, none⟩), .pointer (some ⟨1, 0, none⟩), .pointer (some ⟨2, 0, none⟩), .pointer (some ⟨3, 0, none⟩), j 6, .agg (ptC (ofP 0 1)), .int .i64 (n : Int), j 9, j 10, j 11, j 12, j 13, j 14, j 15, j 16, j 17, j 18, j 19, j 20, j 21, j 22, j 23, j 24, j 25, j 26]
def timM (K : Int) (p : P4) (n : Nat) : List (Array Value × TypeId) := [(byC K, 23), (ptC (timQ p n), 30), (ptC (⟨0, 0, 0, 0⟩ : P4), 30), (ptC (timS K p n), 30)]
theorem tim_loop (K : Int) (p : P4) (hK : Ok K) (hp : Ok4 p) (j0 : Nat → Value) (c0 : Prop) (ch0 : List (Option Value)) : Runs Try.prog (.loop (cAt [1, 1, 0, 1, 0, 0] (bdy Try.f12))) ⟨timT K p 0 j0, timM K p 0, c0, ch0⟩ (fun e s => e = .exit 0 ∧ ∃ j c ch, s = ⟨timT K p 256 j, timM K p 256, c, ch⟩) := by
  refine runs_loop (fun m s => ∃ n j c ch, n ≤ 256 ∧ m = 256 - n ∧ s = ⟨timT K p n j, timM K p n, c, ch⟩) 256 ⟨0, j0, c0, ch0, by omega, rfl, rfl⟩ ?_
  rintro m s ⟨n, j, c, ch, hn, rfl, rfl⟩
  have hq := ok_timQ hp n
  have hs := ok_timS K p n
  by_cases h : n < 256
  · have hi : 0 ≤ (n : Int) ∧ (n : Int) < 256 := by omega
    cases hb : decide (bitK K (n : Int).toNat = 1) with
    | true =>
      refine (tim_T_r K n p (timQ p n) (timS K p n) (j 6) (j 9) (j 10) (j 11) (j 12) (j 13) (j 14) (j 15) (j 16) (j 17) (j 18) (j 19) (j 20) (j 21) (j 22) (j 23) (j 24) (j 25) (j 26) hK hp hq hs hi (decide_eq_true hi.2) hb).mono ?_
      rintro e s ⟨rfl, c, ch, hs'⟩
      refine .inl ⟨rfl, 256 - (n + 1), by omega, n + 1, fun k => s.tm.getD k undef, c, ch, by omega, rfl, ?_⟩
      subst hs'
      have e1 : timS K p (n + 1) = addP (timS K p n) (timQ p n) := by
        show cond (decide (bitK K n = 1)) _ _ = _
        have : decide (bitK K n = 1) = true := hb
        rw [this]; rfl
      unfold timM
      rw [e1, dp_ptC _ hq, dp_ptC _ hs]
      rfl
    | false =>
      refine (tim_F_r K n p (timQ p n) (timS K p n) (j 6) (j 9) (j 10) (j 11) (j 12) (j 13) (j 14) (j 15) (j 16) (j 17) (j 18) (j 19) (j 20) (j 21) (j 22) (j 23) (j 24) (j 25) (j 26) hK hp hq hs hi (decide_eq_true hi.2) hb).mono ?_
      rintro e s ⟨rfl, c, ch, hs'⟩
      refine .inl ⟨rfl, 256 - (n + 1), by omega, n + 1, fun k => s.tm.getD k undef, c, ch, by omega, rfl, ?_⟩
      subst hs'
      have e1 : timS K p (n + 1) = timS K p n := by
        show cond (decide (bitK K n = 1)) _ _ = _
        have : decide (bitK K n = 1) = false := hb
        rw [this]; rfl
      unfold timM
      rw [e1, dp_ptC _ hq]
      rfl
  · have : n = 256 := by omega
    subst this
    refine (tim_E_r K (256 : Nat) p (timQ p 256) (timS K p 256) (j 6) (j 9) (j 10) (j 11) (j 12) (j 13) (j 14) (j 15) (j 16) (j 17) (j 18) (j 19) (j 20) (j 21) (j 22) (j 23) (j 24) (j 25) (j 26) hK hp hq hs (by decide)).mono ?_
    rintro e s ⟨rfl, c, ch, hs'⟩
    refine .inr ⟨by simp, rfl, fun k => s.tm.getD k undef, c, ch, ?_⟩
    subst hs'
    rfl
def timP (K : Int) (p : P4) : P4 := timS K p 256
theorem ok4_tim (K : Int) (p : P4) : Ok4 (timP K p) := ok_timS K p 256
theorem Times_c (K : Int) (p : P4) (hK : Ok K) (hp : Ok4 p) : Pure Try.prog 12 #[.agg (byC K), .agg (ptC p)] (.agg (ptC (timP K p))) := by
  refine pure_runs (E := yty.en tab6) Try.func12 (c := bdy Try.f12) (by kernel_rfl) (args := [.agg (byC K), .agg (ptC p)]) rfl (K := fun e s => e = .ret ∧ resS (yty.en tab6) s Try.f12.results.toList = some [.agg (ptC (timP K p))]) ?_ (fun e s h => ⟨h.1, _, h.2, rfl⟩)
  rw [tim_shape]
  refine runs_seq (tim_A_r K p hK hp) (fun s h => ?_) (fun e s hne h => absurd h.1 hne)
  obtain ⟨_, c, ch, rfl⟩ := h
  refine runs_seq (tim_B_r K p hK hp) (fun s h => ?_) (fun e s hne h => absurd h.1 hne)
  obtain ⟨_, c, ch, rfl⟩ := h
  refine runs_seq (K1 := fun e s => e = .normal ∧ ∃ j c ch, s = ⟨timT K p 256 j, timM K p 256, c, ch⟩) ?_ (fun s h => ?_) (fun e s hne h => absurd h.1 hne)
  · refine runs_seq (tim_C_r K p hK hp) (fun s h => ?_) (fun e s hne h => absurd h.1 hne)
    obtain ⟨_, c, ch, rfl⟩ := h
    refine runs_block (tim_loop K p hK hp (fun _ => undef) c ch) ?_
    rintro e s ⟨rfl, j, c, ch, rfl⟩
    exact .inl ⟨rfl, rfl, j, c, ch, rfl⟩
  · obtain ⟨_, j, c, ch, rfl⟩ := h
    refine (tim_Z_r K (256 : Nat) p (timQ p 256) (timS K p 256) (j 6) (j 9) (j 10) (j 11) (j 12) (j 13) (j 14) (j 15) (j 16) (j 17) (j 18) (j 19) (j 20) (j 21) (j 22) (j 23) (j 24) (j 25) (j 26) hK hp (ok_timQ hp 256) (ok_timS K p 256)).mono ?_
    rintro e s ⟨rfl, c, ch, rfl⟩
    exact ⟨rfl, by kernel_rfl⟩

def rtm_A_h (i : Nat) : Hn := ⟨0, [], [], [], []⟩
theorem rtm_A_0 (K : Int) (q : P3)  : evC (yty.en tab6) rtm_A_h (cAt [0] (bdy Try.f13)) ⟨[.agg (byC K), .agg (rpC q), undef, undef, undef, undef, undef, undef, undef, undef, undef, undef, undef, undef, undef, undef, undef, undef, undef, undef, undef, undef, undef, undef, undef, undef, undef, undef, undef, undef, undef, undef], [], True, []⟩ = some (.normal, ⟨[.agg (byC K), .agg (rpC q), .pointer (some ⟨0, 0, none⟩), .pointer (some ⟨1, 0, none⟩), .pointer (some ⟨2, 0, none⟩), undef, undef, undef, undef, undef, undef, undef, undef, undef, undef, undef, undef, undef, undef, undef, undef, undef, undef, undef, undef, undef, undef, undef, undef, undef, undef, undef], [((byC K), 23), ((rpC q), 34), ((rpC (⟨0, 0, 0⟩ : P3)), 34)], True, []⟩) := by kernel_rfl
theorem rtm_A_r (K : Int) (q : P3)  (hK : Ok K) (hq : Nu3 q)  {c0 : Prop} {ch0 : List (Option Value)} : Runs Try.prog (cAt [0] (bdy Try.f13)) ⟨[.agg (byC K), .agg (rpC q), undef, undef, undef, undef, undef, undef, undef, undef, undef, undef, undef, undef, undef, undef, undef, undef, undef, undef, undef, undef, undef, undef, undef, undef, undef, undef, undef, undef, undef, undef], [], c0, ch0⟩ (fun e s => e = .normal ∧ ∃ c ch, s = ⟨[.agg (byC K), .agg (rpC q), .pointer (some ⟨0, 0, none⟩), .pointer (some ⟨1, 0, none⟩), .pointer (some ⟨2, 0, none⟩), undef, undef, undef, undef, undef, undef, undef, undef, undef, undef, undef, undef, undef, undef, undef, undef, undef, undef, undef, undef, undef, undef, undef, undef, undef, undef, undef], [((byC K), 23), ((rpC q), 34), ((rpC (⟨0, 0, 0⟩ : P3)), 34)], c, ch⟩) := by
  refine (runs_ev mixed [] (rtm_A_0 K q ) trivial).mono ?_
  rintro e s ⟨rfl, rfl⟩
  exact ⟨rfl, _, _, rfl⟩
def rtm_B_h (i : Nat) : Hn := ⟨0, [], [], [], []⟩
theorem rtm_B_0 (K : Int) (q : P3)  : evC (yty.en tab6) rtm_B_h (cAt [1, 0] (bdy Try.f13)) ⟨[.agg (byC K), .agg (rpC q), .pointer (some ⟨0, 0, none⟩), .pointer (some ⟨1, 0, none⟩), .pointer (some ⟨2, 0, none⟩), undef, undef, undef, undef, undef, undef, undef, undef, undef, undef, undef, undef, undef, undef, undef, undef, undef, undef, undef, undef, undef, undef, undef, undef, undef, undef, undef], [((byC K), 23), ((rpC q), 34), ((rpC (⟨0, 0, 0⟩ : P3)), 34)], True, []⟩ = some (.normal, ⟨[.agg (byC K), .agg (rpC q), .pointer (some ⟨0, 0, none⟩), .pointer (some ⟨1, 0, none⟩), .pointer (some ⟨2, 0, none⟩), .pointer (some ⟨3, 0, none⟩), undef, undef, .agg (nuC dN), undef, undef, undef, undef, undef, undef, undef, undef, undef, undef, undef, undef, undef, undef, undef, undef, undef, undef, undef, undef, undef, undef, undef], [((byC K), 23), ((rpC q), 34), ((rpC (⟨0, 0, 0⟩ : P3)), 34), ((nuC dN), 32)], ((True ∧ True) ∧ ((nuC dN).all (fun v => v.oneCell') = true)), []⟩) := by kernel_rfl
theorem rtm_B_r (K : Int) (q : P3)  (hK : Ok K) (hq : Nu3 q)  {c0 : Prop} {ch0 : List (Option Value)} : Runs Try.prog (cAt [1, 0] (bdy Try.f13)) ⟨[.agg (byC K), .agg (rpC q), .pointer (some ⟨0, 0, none⟩), .pointer (some ⟨1, 0, none⟩), .pointer (some ⟨2, 0, none⟩), undef, undef, undef, undef, undef, undef, undef, undef, undef, undef, undef, undef, undef, undef, undef, undef, undef, undef, undef, undef, undef, undef, undef, undef, undef, undef, undef], [((byC K), 23), ((rpC q), 34), ((rpC (⟨0, 0, 0⟩ : P3)), 34)], c0, ch0⟩ (fun e s => e = .normal ∧ ∃ c ch, s = ⟨[.agg (byC K), .agg (rpC q), .pointer (some ⟨0, 0, none⟩), .pointer (some ⟨1, 0, none⟩), .pointer (some ⟨2, 0, none⟩), .pointer (some ⟨3, 0, none⟩), undef, undef, .agg (nuC dN), undef, undef, undef, undef, undef, undef, undef, undef, undef, undef, undef, undef, undef, undef, undef, undef, undef, undef, undef, undef, undef, undef, undef], [((byC K), 23), ((rpC q), 34), ((rpC (⟨0, 0, 0⟩ : P3)), 34), ((nuC dN), 32)], c, ch⟩) := by
  refine (runs_ev mixed [] (rtm_B_0 K q ) ⟨⟨trivial, trivial⟩, one_nu _⟩).mono ?_
  rintro e s ⟨rfl, rfl⟩
  exact ⟨rfl, _, _, rfl⟩
def rtm_C_h (i : Nat) : Hn := ⟨0, [], [], [], []⟩
theorem rtm_C_0 (K : Int) (q : P3)  : evC (yty.en tab6) rtm_C_h (cAt [1, 1, 0] (bdy Try.f13)) ⟨[.agg (byC K), .agg (rpC q), .pointer (some ⟨0, 0, none⟩), .pointer (some ⟨1, 0, none⟩), .pointer (some ⟨2, 0, none⟩), .pointer (some ⟨3, 0, none⟩), undef, undef, .agg (nuC dN), undef, undef, undef, undef, undef, undef, undef, undef, undef, undef, undef, undef, undef, undef, undef, undef, undef, undef, undef, undef, undef, undef, undef], [((byC K), 23), ((rpC q), 34), ((rpC (⟨0, 0, 0⟩ : P3)), 34), ((nuC dN), 32)], True, []⟩ = some (.normal, ⟨[.agg (byC K), .agg (rpC q), .pointer (some ⟨0, 0, none⟩), .pointer (some ⟨1, 0, none⟩), .pointer (some ⟨2, 0, none⟩), .pointer (some ⟨3, 0, none⟩), .pointer (some ⟨4, 0, none⟩), undef, .agg (nuC dN), .agg (rpC (⟨0, 1, 1⟩ : P3)), undef, undef, undef, undef, undef, undef, undef, undef, undef, undef, undef, undef, undef, undef, undef, undef, undef, undef, undef, undef, undef, undef], [((byC K), 23), ((rpC q), 34), ((rpC (⟨0, 0, 0⟩ : P3)), 34), ((nuC dN), 32), ((rpC (⟨0, 1, 1⟩ : P3)), 34)], ((True ∧ True) ∧ ((rpC (⟨0, 1, 1⟩ : P3)).all (fun v => v.oneCell') = true)), []⟩) := by kernel_rfl
theorem rtm_C_r (K : Int) (q : P3)  (hK : Ok K) (hq : Nu3 q)  {c0 : Prop} {ch0 : List (Option Value)} : Runs Try.prog (cAt [1, 1, 0] (bdy Try.f13)) ⟨[.agg (byC K), .agg (rpC q), .pointer (some ⟨0, 0, none⟩), .pointer (some ⟨1, 0, none⟩), .pointer (some ⟨2, 0, none⟩), .pointer (some ⟨3, 0, none⟩), undef, undef, .agg (nuC dN), undef, undef, undef, undef, undef, undef, undef, undef, undef, undef, undef, undef, undef, undef, undef, undef, undef, undef, undef, undef, undef, undef, undef], [((byC K), 23), ((rpC q), 34), ((rpC (⟨0, 0, 0⟩ : P3)), 34), ((nuC dN), 32)], c0, ch0⟩ (fun e s => e = .normal ∧ ∃ c ch, s = ⟨[.agg (byC K), .agg (rpC q), .pointer (some ⟨0, 0, none⟩), .pointer (some ⟨1, 0, none⟩), .pointer (some ⟨2, 0, none⟩), .pointer (some ⟨3, 0, none⟩), .pointer (some ⟨4, 0, none⟩), undef, .agg (nuC dN), .agg (rpC (⟨0, 1, 1⟩ : P3)), undef, undef, undef, undef, undef, undef, undef, undef, undef, undef, undef, undef, undef, undef, undef, undef, undef, undef, undef, undef, undef, undef], [((byC K), 23), ((rpC q), 34), ((rpC (⟨0, 0, 0⟩ : P3)), 34), ((nuC dN), 32), ((rpC (⟨0, 1, 1⟩ : P3)), 34)], c, ch⟩) := by
  refine (runs_ev mixed [] (rtm_C_0 K q ) ⟨⟨trivial, trivial⟩, rpC_one _⟩).mono ?_
  rintro e s ⟨rfl, rfl⟩
  exact ⟨rfl, _, _, rfl⟩
def rtm_D_h (i : Nat) : Hn := ⟨0, [], [], [], []⟩
theorem rtm_D_0 (K : Int) (q : P3)  : evC (yty.en tab6) rtm_D_h (cAt [1, 1, 1, 0, 0] (bdy Try.f13)) ⟨[.agg (byC K), .agg (rpC q), .pointer (some ⟨0, 0, none⟩), .pointer (some ⟨1, 0, none⟩), .pointer (some ⟨2, 0, none⟩), .pointer (some ⟨3, 0, none⟩), .pointer (some ⟨4, 0, none⟩), undef, .agg (nuC dN), .agg (rpC (⟨0, 1, 1⟩ : P3)), undef, undef, undef, undef, undef, undef, undef, undef, undef, undef, undef, undef, undef, undef, undef, undef, undef, undef, undef, undef, undef, undef], [((byC K), 23), ((rpC q), 34), ((rpC (⟨0, 0, 0⟩ : P3)), 34), ((nuC dN), 32), ((rpC (⟨0, 1, 1⟩ : P3)), 34)], True, []⟩ = some (.normal, ⟨[.agg (byC K), .agg (rpC q), .pointer (some ⟨0, 0, none⟩), .pointer (some ⟨1, 0, none⟩), .pointer (some ⟨2, 0, none⟩), .pointer (some ⟨3, 0, none⟩), .pointer (some ⟨4, 0, none⟩), .int .i64 255, .agg (nuC dN), .agg (rpC (⟨0, 1, 1⟩ : P3)), undef, undef, undef, undef, undef, undef, undef, undef, undef, undef, undef, undef, undef, undef, undef, undef, undef, undef, undef, undef, undef, undef], [((byC K), 23), ((rpC q), 34), ((rpC (⟨0, 0, 0⟩ : P3)), 34), ((nuC dN), 32), ((rpC (⟨0, 1, 1⟩ : P3)), 34)], (True ∧ True), []⟩) := by kernel_rfl
theorem rtm_D_r (K : Int) (q : P3)  (hK : Ok K) (hq : Nu3 q)  {c0 : Prop} {ch0 : List (Option Value)} : Runs Try.prog (cAt [1, 1, 1, 0, 0] (bdy Try.f13)) ⟨[.agg (byC K), .agg (rpC q), .pointer (some ⟨0, 0, none⟩), .pointer (some ⟨1, 0, none⟩), .pointer (some ⟨2, 0, none⟩), .pointer (some ⟨3, 0, none⟩), .pointer (some ⟨4, 0, none⟩), undef, .agg (nuC dN), .agg (rpC (⟨0, 1, 1⟩ : P3)), undef, undef, undef, undef, undef, undef, undef, undef, undef, undef, undef, undef, undef, undef, undef, undef, undef, undef, undef, undef, undef, undef], [((byC K), 23), ((rpC q), 34), ((rpC (⟨0, 0, 0⟩ : P3)), 34), ((nuC dN), 32), ((rpC (⟨0, 1, 1⟩ : P3)), 34)], c0, ch0⟩ (fun e s => e = .normal ∧ ∃ c ch, s = ⟨[.agg (byC K), .agg (rpC q), .pointer (some ⟨0, 0, none⟩), .pointer (some ⟨1, 0, none⟩), .pointer (some ⟨2, 0, none⟩), .pointer (some ⟨3, 0, none⟩), .pointer (some ⟨4, 0, none⟩), .int .i64 255, .agg (nuC dN), .agg (rpC (⟨0, 1, 1⟩ : P3)), undef, undef, undef, undef, undef, undef, undef, undef, undef, undef, undef, undef, undef, undef, undef, undef, undef, undef, undef, undef, undef, undef], [((byC K), 23), ((rpC q), 34), ((rpC (⟨0, 0, 0⟩ : P3)), 34), ((nuC dN), 32), ((rpC (⟨0, 1, 1⟩ : P3)), 34)], c, ch⟩) := by
  refine (runs_ev mixed [] (rtm_D_0 K q ) ⟨trivial, trivial⟩).mono ?_
  rintro e s ⟨rfl, rfl⟩
  exact ⟨rfl, _, _, rfl⟩
def rtm_T_h (i : Nat) : Hn := ⟨0, [], [], [], []⟩
theorem rtm_T_0 (K i : Int) (q O : P3) (j10 j11 j12 j13 j14 j15 j16 j17 j18 j19 j20 j21 j22 j23 j24 j25 j26 j27 j28 j29 j30 j31 : Value) : evC (yty.en tab6) rtm_T_h (cAt [1, 1, 1, 0, 1, 0, 0] (bdy Try.f13)) ⟨[.agg (byC K), .agg (rpC q), .pointer (some ⟨0, 0, none⟩), .pointer (some ⟨1, 0, none⟩), .pointer (some ⟨2, 0, none⟩), .pointer (some ⟨3, 0, none⟩), .pointer (some ⟨4, 0, none⟩), .int .i64 i, .agg (nuC dN), .agg (rpC (⟨0, 1, 1⟩ : P3)), j10, j11, j12, j13, j14, j15, j16, j17, j18, j19, j20, j21, j22, j23, j24, j25, j26, j27, j28, j29, j30, j31], [((byC K), 23), ((rpC q), 34), ((rpC (⟨0, 0, 0⟩ : P3)), 34), ((nuC dN), 32), ((rpC O), 34)], True, [some (.bool true), some (.int .i64 (i / 8)), some (.int .u8 (byt K (i / 8).toNat)), some (.int .i64 (i % 8)), none, some (.int .u8 (bitK K i.toNat)), some (.bool true), some (.int .i64 (i - 1))]⟩ = some (.normal, ⟨[.agg (byC K), .agg (rpC q), .pointer (some ⟨0, 0, none⟩), .pointer (some ⟨1, 0, none⟩), .pointer (some ⟨2, 0, none⟩), .pointer (some ⟨3, 0, none⟩), .pointer (some ⟨4, 0, none⟩), .int .i64 (i - 1), .agg (nuC dN), .agg (rpC (⟨0, 1, 1⟩ : P3)), .int .i64 i, .bool true, .int .i64 i, .int .i64 (i - 1), .agg (rpC O), .agg (rpC O), .agg (nuC dN), .agg (rpC (rab_R (dr (rpC O)) (dr (rpC O)) (nn (nuC dN)))), .int .i64 i, .int .i64 (i / 8), .pointer (some ⟨0, 0 + Int.toNat (i / 8) * 1, none⟩), .int .u8 (byt K (i / 8).toNat), .int .i64 i, .int .i64 (i % 8), .int .u8 ((byt K (i / 8).toNat) / 2 ^ (min (Int.toNat (i % 8)) 8)), .int .u8 (bitK K i.toNat), .bool true, .agg (rpC (rab_R (dr (rpC O)) (dr (rpC O)) (nn (nuC dN)))), .agg (rpC q), .agg (nuC dN), .agg (rpC (rab_R (dr (rpC (rab_R (dr (rpC O)) (dr (rpC O)) (nn (nuC dN))))) (dr (rpC q)) (nn (nuC dN)))), j31], [((byC K), 23), ((rpC q), 34), ((rpC (⟨0, 0, 0⟩ : P3)), 34), ((nuC dN), 32), ((rpC (rab_R (dr (rpC (rab_R (dr (rpC O)) (dr (rpC O)) (nn (nuC dN))))) (dr (rpC q)) (nn (nuC dN)))), 34)], ((((((((((((((((((((((((True ∧ True) ∧ (True ∧ (decide (0 ≤ i)) = true)) ∧ True) ∧ True) ∧ True) ∧ (rpD.is (rpC O) ∧ rpD.is (rpC O) ∧ nuD.is (nuC dN))) ∧ ((rpC (rab_R (dr (rpC O)) (dr (rpC O)) (nn (nuC dN)))).all (fun v => v.oneCell') = true)) ∧ True) ∧ (((8 : Int) ≠ 0) ∧ (IntKind.i64.wrap (Int.tdiv i 8)) = (i / 8))) ∧ (0 ≤ (i / 8) ∧ (i / 8) < ((32 : Nat) : Int))) ∧ (((byC K)[(0 + Int.toNat (i / 8) * 1)]? = some (.int .u8 (byt K (i / 8).toNat))) ∧ (byt K (i / 8).toNat) = (byt K (i / 8).toNat))) ∧ True) ∧ (((8 : Int) ≠ 0) ∧ (Int.tmod i 8) = (i % 8))) ∧ (0 ≤ (i % 8))) ∧ (((2 : Int) ≠ 0) ∧ (Int.tmod ((byt K (i / 8).toNat) / 2 ^ (min (Int.toNat (i % 8)) 8)) 2) = (bitK K i.toNat))) ∧ (True ∧ (decide ((bitK K i.toNat) = 1)) = true)) ∧ True) ∧ True) ∧ True) ∧ (rpD.is (rpC (rab_R (dr (rpC O)) (dr (rpC O)) (nn (nuC dN)))) ∧ rpD.is (rpC q) ∧ nuD.is (nuC dN))) ∧ ((rpC (rab_R (dr (rpC (rab_R (dr (rpC O)) (dr (rpC O)) (nn (nuC dN))))) (dr (rpC q)) (nn (nuC dN)))).all (fun v => v.oneCell') = true)) ∧ True) ∧ (True ∧ (IntKind.i64.wrap (i - 1)) = (i - 1))) ∧ True), []⟩) := by kernel_rfl
theorem rtm_T_r (K i : Int) (q O : P3) (j10 j11 j12 j13 j14 j15 j16 j17 j18 j19 j20 j21 j22 j23 j24 j25 j26 j27 j28 j29 j30 j31 : Value) (hK : Ok K) (hq : Nu3 q) (hO : Nu3 O) (hi : 0 ≤ i ∧ i < 256) (h0 : (decide (0 ≤ i)) = true) (h1 : (decide ((bitK K i.toNat) = 1)) = true) {c0 : Prop} {ch0 : List (Option Value)} : Runs Try.prog (cAt [1, 1, 1, 0, 1, 0, 0] (bdy Try.f13)) ⟨[.agg (byC K), .agg (rpC q), .pointer (some ⟨0, 0, none⟩), .pointer (some ⟨1, 0, none⟩), .pointer (some ⟨2, 0, none⟩), .pointer (some ⟨3, 0, none⟩), .pointer (some ⟨4, 0, none⟩), .int .i64 i, .agg (nuC dN), .agg (rpC (⟨0, 1, 1⟩ : P3)), j10, j11, j12, j13, j14, j15, j16, j17, j18, j19, j20, j21, j22, j23, j24, j25, j26, j27, j28, j29, j30, j31], [((byC K), 23), ((rpC q), 34), ((rpC (⟨0, 0, 0⟩ : P3)), 34), ((nuC dN), 32), ((rpC O), 34)], c0, ch0⟩ (fun e s => e = .normal ∧ ∃ c ch, s = ⟨[.agg (byC K), .agg (rpC q), .pointer (some ⟨0, 0, none⟩), .pointer (some ⟨1, 0, none⟩), .pointer (some ⟨2, 0, none⟩), .pointer (some ⟨3, 0, none⟩), .pointer (some ⟨4, 0, none⟩), .int .i64 (i - 1), .agg (nuC dN), .agg (rpC (⟨0, 1, 1⟩ : P3)), .int .i64 i, .bool true, .int .i64 i, .int .i64 (i - 1), .agg (rpC O), .agg (rpC O), .agg (nuC dN), .agg (rpC (rab_R (dr (rpC O)) (dr (rpC O)) (nn (nuC dN)))), .int .i64 i, .int .i64 (i / 8), .pointer (some ⟨0, 0 + Int.toNat (i / 8) * 1, none⟩), .int .u8 (byt K (i / 8).toNat), .int .i64 i, .int .i64 (i % 8), .int .u8 ((byt K (i / 8).toNat) / 2 ^ (min (Int.toNat (i % 8)) 8)), .int .u8 (bitK K i.toNat), .bool true, .agg (rpC (rab_R (dr (rpC O)) (dr (rpC O)) (nn (nuC dN)))), .agg (rpC q), .agg (nuC dN), .agg (rpC (rab_R (dr (rpC (rab_R (dr (rpC O)) (dr (rpC O)) (nn (nuC dN))))) (dr (rpC q)) (nn (nuC dN)))), j31], [((byC K), 23), ((rpC q), 34), ((rpC (⟨0, 0, 0⟩ : P3)), 34), ((nuC dN), 32), ((rpC (rab_R (dr (rpC (rab_R (dr (rpC O)) (dr (rpC O)) (nn (nuC dN))))) (dr (rpC q)) (nn (nuC dN)))), 34)], c, ch⟩) := by
  refine (runs_ev mixed [some (.bool true), some (.int .i64 (i / 8)), some (.int .u8 (byt K (i / 8).toNat)), some (.int .i64 (i % 8)), none, some (.int .u8 (bitK K i.toNat)), some (.bool true), some (.int .i64 (i - 1))] (rtm_T_0 K i q O j10 j11 j12 j13 j14 j15 j16 j17 j18 j19 j20 j21 j22 j23 j24 j25 j26 j27 j28 j29 j30 j31) ⟨⟨⟨⟨⟨⟨⟨⟨⟨⟨⟨⟨⟨⟨⟨⟨⟨⟨⟨⟨⟨⟨⟨⟨trivial, trivial⟩, ⟨trivial, h0⟩⟩, trivial⟩, trivial⟩, trivial⟩, ⟨(rpD.is_enc (hO)), (rpD.is_enc (hO)), (nuD.is_enc (bd_d))⟩⟩, rpC_one _⟩, trivial⟩, ⟨(by decide), w_quo hi⟩⟩, w_i8 hi⟩, ⟨w_ld K hi, rfl⟩⟩, trivial⟩, ⟨(by decide), w_rem hi⟩⟩, w_m8 hi⟩, ⟨(by decide), w_mod2 K hi⟩⟩, ⟨trivial, h1⟩⟩, trivial⟩, trivial⟩, trivial⟩, ⟨(rpD.is_enc (nu3_ab _ _ _)), (rpD.is_enc (hq)), (nuD.is_enc (bd_d))⟩⟩, rpC_one _⟩, trivial⟩, ⟨trivial, w_sub hi⟩⟩, trivial⟩).mono ?_
  rintro e s ⟨rfl, rfl⟩
  exact ⟨rfl, _, _, rfl⟩
def rtm_F_h (i : Nat) : Hn := ⟨0, [], [], [], []⟩
theorem rtm_F_0 (K i : Int) (q O : P3) (j10 j11 j12 j13 j14 j15 j16 j17 j18 j19 j20 j21 j22 j23 j24 j25 j26 j27 j28 j29 j30 j31 : Value) : evC (yty.en tab6) rtm_F_h (cAt [1, 1, 1, 0, 1, 0, 0] (bdy Try.f13)) ⟨[.agg (byC K), .agg (rpC q), .pointer (some ⟨0, 0, none⟩), .pointer (some ⟨1, 0, none⟩), .pointer (some ⟨2, 0, none⟩), .pointer (some ⟨3, 0, none⟩), .pointer (some ⟨4, 0, none⟩), .int .i64 i, .agg (nuC dN), .agg (rpC (⟨0, 1, 1⟩ : P3)), j10, j11, j12, j13, j14, j15, j16, j17, j18, j19, j20, j21, j22, j23, j24, j25, j26, j27, j28, j29, j30, j31], [((byC K), 23), ((rpC q), 34), ((rpC (⟨0, 0, 0⟩ : P3)), 34), ((nuC dN), 32), ((rpC O), 34)], True, [some (.bool true), some (.int .i64 (i / 8)), some (.int .u8 (byt K (i / 8).toNat)), some (.int .i64 (i % 8)), none, some (.int .u8 (bitK K i.toNat)), some (.bool false), some (.int .i64 (i - 1))]⟩ = some (.normal, ⟨[.agg (byC K), .agg (rpC q), .pointer (some ⟨0, 0, none⟩), .pointer (some ⟨1, 0, none⟩), .pointer (some ⟨2, 0, none⟩), .pointer (some ⟨3, 0, none⟩), .pointer (some ⟨4, 0, none⟩), .int .i64 (i - 1), .agg (nuC dN), .agg (rpC (⟨0, 1, 1⟩ : P3)), .int .i64 i, .bool true, .int .i64 i, .int .i64 (i - 1), .agg (rpC O), .agg (rpC O), .agg (nuC dN), .agg (rpC (rab_R (dr (rpC O)) (dr (rpC O)) (nn (nuC dN)))), .int .i64 i, .int .i64 (i / 8), .pointer (some ⟨0, 0 + Int.toNat (i / 8) * 1, none⟩), .int .u8 (byt K (i / 8).toNat), .int .i64 i, .int .i64 (i % 8), .int .u8 ((byt K (i / 8).toNat) / 2 ^ (min (Int.toNat (i % 8)) 8)), .int .u8 (bitK K i.toNat), .bool false, j27, j28, j29, j30, j31], [((byC K), 23), ((rpC q), 34), ((rpC (⟨0, 0, 0⟩ : P3)), 34), ((nuC dN), 32), ((rpC (rab_R (dr (rpC O)) (dr (rpC O)) (nn (nuC dN)))), 34)], (((((((((((((((((((True ∧ True) ∧ (True ∧ (decide (0 ≤ i)) = true)) ∧ True) ∧ True) ∧ True) ∧ (rpD.is (rpC O) ∧ rpD.is (rpC O) ∧ nuD.is (nuC dN))) ∧ ((rpC (rab_R (dr (rpC O)) (dr (rpC O)) (nn (nuC dN)))).all (fun v => v.oneCell') = true)) ∧ True) ∧ (((8 : Int) ≠ 0) ∧ (IntKind.i64.wrap (Int.tdiv i 8)) = (i / 8))) ∧ (0 ≤ (i / 8) ∧ (i / 8) < ((32 : Nat) : Int))) ∧ (((byC K)[(0 + Int.toNat (i / 8) * 1)]? = some (.int .u8 (byt K (i / 8).toNat))) ∧ (byt K (i / 8).toNat) = (byt K (i / 8).toNat))) ∧ True) ∧ (((8 : Int) ≠ 0) ∧ (Int.tmod i 8) = (i % 8))) ∧ (0 ≤ (i % 8))) ∧ (((2 : Int) ≠ 0) ∧ (Int.tmod ((byt K (i / 8).toNat) / 2 ^ (min (Int.toNat (i % 8)) 8)) 2) = (bitK K i.toNat))) ∧ (True ∧ (decide ((bitK K i.toNat) = 1)) = false)) ∧ True) ∧ (True ∧ (IntKind.i64.wrap (i - 1)) = (i - 1))) ∧ True), []⟩) := by kernel_rfl
theorem rtm_F_r (K i : Int) (q O : P3) (j10 j11 j12 j13 j14 j15 j16 j17 j18 j19 j20 j21 j22 j23 j24 j25 j26 j27 j28 j29 j30 j31 : Value) (hK : Ok K) (hq : Nu3 q) (hO : Nu3 O) (hi : 0 ≤ i ∧ i < 256) (h0 : (decide (0 ≤ i)) = true) (h1 : (decide ((bitK K i.toNat) = 1)) = false) {c0 : Prop} {ch0 : List (Option Value)} : Runs Try.prog (cAt [1, 1, 1, 0, 1, 0, 0] (bdy Try.f13)) ⟨[.agg (byC K), .agg (rpC q), .pointer (some ⟨0, 0, none⟩), .pointer (some ⟨1, 0, none⟩), .pointer (some ⟨2, 0, none⟩), .pointer (some ⟨3, 0, none⟩), .pointer (some ⟨4, 0, none⟩), .int .i64 i, .agg (nuC dN), .agg (rpC (⟨0, 1, 1⟩ : P3)), j10, j11, j12, j13, j14, j15, j16, j17, j18, j19, j20, j21, j22, j23, j24, j25, j26, j27, j28, j29, j30, j31], [((byC K), 23), ((rpC q), 34), ((rpC (⟨0, 0, 0⟩ : P3)), 34), ((nuC dN), 32), ((rpC O), 34)], c0, ch0⟩ (fun e s => e = .normal ∧ ∃ c ch, s = ⟨[.agg (byC K), .agg (rpC q), .pointer (some ⟨0, 0, none⟩), .pointer (some ⟨1, 0, none⟩), .pointer (some ⟨2, 0, none⟩), .pointer (some ⟨3, 0, none⟩), .pointer (some ⟨4, 0, none⟩), .int .i64 (i - 1), .agg (nuC dN), .agg (rpC (⟨0, 1, 1⟩ : P3)), .int .i64 i, .bool true, .int .i64 i, .int .i64 (i - 1), .agg (rpC O), .agg (rpC O), .agg (nuC dN), .agg (rpC (rab_R (dr (rpC O)) (dr (rpC O)) (nn (nuC dN)))), .int .i64 i, .int .i64 (i / 8), .pointer (some ⟨0, 0 + Int.toNat (i / 8) * 1, none⟩), .int .u8 (byt K (i / 8).toNat), .int .i64 i, .int .i64 (i % 8), .int .u8 ((byt K (i / 8).toNat) / 2 ^ (min (Int.toNat (i % 8)) 8)), .int .u8 (bitK K i.toNat), .bool false, j27, j28, j29, j30, j31], [((byC K), 23), ((rpC q), 34), ((rpC (⟨0, 0, 0⟩ : P3)), 34), ((nuC dN), 32), ((rpC (rab_R (dr (rpC O)) (dr (rpC O)) (nn (nuC dN)))), 34)], c, ch⟩) := by
  refine (runs_ev mixed [some (.bool true), some (.int .i64 (i / 8)), some (.int .u8 (byt K (i / 8).toNat)), some (.int .i64 (i % 8)), none, some (.int .u8 (bitK K i.toNat)), some (.bool false), some (.int .i64 (i - 1))] (rtm_F_0 K i q O j10 j11 j12 j13 j14 j15 j16 j17 j18 j19 j20 j21 j22 j23 j24 j25 j26 j27 j28 j29 j30 j31) ⟨⟨⟨⟨⟨⟨⟨⟨⟨⟨⟨⟨⟨⟨⟨⟨⟨⟨⟨trivial, trivial⟩, ⟨trivial, h0⟩⟩, trivial⟩, trivial⟩, trivial⟩, ⟨(rpD.is_enc (hO)), (rpD.is_enc (hO)), (nuD.is_enc (bd_d))⟩⟩, rpC_one _⟩, trivial⟩, ⟨(by decide), w_quo hi⟩⟩, w_i8 hi⟩, ⟨w_ld K hi, rfl⟩⟩, trivial⟩, ⟨(by decide), w_rem hi⟩⟩, w_m8 hi⟩, ⟨(by decide), w_mod2 K hi⟩⟩, ⟨trivial, h1⟩⟩, trivial⟩, ⟨trivial, w_sub hi⟩⟩, trivial⟩).mono ?_
  rintro e s ⟨rfl, rfl⟩
  exact ⟨rfl, _, _, rfl⟩
def rtm_E_h (i : Nat) : Hn := ⟨0, [], [], [], []⟩
theorem rtm_E_0 (K i : Int) (q O : P3) (j10 j11 j12 j13 j14 j15 j16 j17 j18 j19 j20 j21 j22 j23 j24 j25 j26 j27 j28 j29 j30 j31 : Value) : evC (yty.en tab6) rtm_E_h (cAt [1, 1, 1, 0, 1, 0, 0] (bdy Try.f13)) ⟨[.agg (byC K), .agg (rpC q), .pointer (some ⟨0, 0, none⟩), .pointer (some ⟨1, 0, none⟩), .pointer (some ⟨2, 0, none⟩), .pointer (some ⟨3, 0, none⟩), .pointer (some ⟨4, 0, none⟩), .int .i64 i, .agg (nuC dN), .agg (rpC (⟨0, 1, 1⟩ : P3)), j10, j11, j12, j13, j14, j15, j16, j17, j18, j19, j20, j21, j22, j23, j24, j25, j26, j27, j28, j29, j30, j31], [((byC K), 23), ((rpC q), 34), ((rpC (⟨0, 0, 0⟩ : P3)), 34), ((nuC dN), 32), ((rpC O), 34)], True, [some (.bool false)]⟩ = some ((.exit 0), ⟨[.agg (byC K), .agg (rpC q), .pointer (some ⟨0, 0, none⟩), .pointer (some ⟨1, 0, none⟩), .pointer (some ⟨2, 0, none⟩), .pointer (some ⟨3, 0, none⟩), .pointer (some ⟨4, 0, none⟩), .int .i64 i, .agg (nuC dN), .agg (rpC (⟨0, 1, 1⟩ : P3)), .int .i64 i, .bool false, j12, j13, j14, j15, j16, j17, j18, j19, j20, j21, j22, j23, j24, j25, j26, j27, j28, j29, j30, j31], [((byC K), 23), ((rpC q), 34), ((rpC (⟨0, 0, 0⟩ : P3)), 34), ((nuC dN), 32), ((rpC O), 34)], ((True ∧ True) ∧ (True ∧ (decide (0 ≤ i)) = false)), []⟩) := by kernel_rfl
theorem rtm_E_r (K i : Int) (q O : P3) (j10 j11 j12 j13 j14 j15 j16 j17 j18 j19 j20 j21 j22 j23 j24 j25 j26 j27 j28 j29 j30 j31 : Value) (hK : Ok K) (hq : Nu3 q) (hO : Nu3 O) (h0 : (decide (0 ≤ i)) = false) {c0 : Prop} {ch0 : List (Option Value)} : Runs Try.prog (cAt [1, 1, 1, 0, 1, 0, 0] (bdy Try.f13)) ⟨[.agg (byC K), .agg (rpC q), .pointer (some ⟨0, 0, none⟩), .pointer (some ⟨1, 0, none⟩), .pointer (some ⟨2, 0, none⟩), .pointer (some ⟨3, 0, none⟩), .pointer (some ⟨4, 0, none⟩), .int .i64 i, .agg (nuC dN), .agg (rpC (⟨0, 1, 1⟩ : P3)), j10, j11, j12, j13, j14, j15, j16, j17, j18, j19, j20, j21, j22, j23, j24, j25, j26, j27, j28, j29, j30, j31], [((byC K), 23), ((rpC q), 34), ((rpC (⟨0, 0, 0⟩ : P3)), 34), ((nuC dN), 32), ((rpC O), 34)], c0, ch0⟩ (fun e s => e = (.exit 0) ∧ ∃ c ch, s = ⟨[.agg (byC K), .agg (rpC q), .pointer (some ⟨0, 0, none⟩), .pointer (some ⟨1, 0, none⟩), .pointer (some ⟨2, 0, none⟩), .pointer (some ⟨3, 0, none⟩), .pointer (some ⟨4, 0, none⟩), .int .i64 i, .agg (nuC dN), .agg (rpC (⟨0, 1, 1⟩ : P3)), .int .i64 i, .bool false, j12, j13, j14, j15, j16, j17, j18, j19, j20, j21, j22, j23, j24, j25, j26, j27, j28, j29, j30, j31], [((byC K), 23), ((rpC q), 34), ((rpC (⟨0, 0, 0⟩ : P3)), 34), ((nuC dN), 32), ((rpC O), 34)], c, ch⟩) := by
  refine (runs_ev mixed [some (.bool false)] (rtm_E_0 K i q O j10 j11 j12 j13 j14 j15 j16 j17 j18 j19 j20 j21 j22 j23 j24 j25 j26 j27 j28 j29 j30 j31) ⟨⟨trivial, trivial⟩, ⟨trivial, h0⟩⟩).mono ?_
  rintro e s ⟨rfl, rfl⟩
  exact ⟨rfl, _, _, rfl⟩
def rtm_Z_h (i : Nat) : Hn := ⟨0, [], [], [], []⟩
theorem rtm_Z_0 (K i : Int) (q O : P3) (j10 j11 j12 j13 j14 j15 j16 j17 j18 j19 j20 j21 j22 j23 j24 j25 j26 j27 j28 j29 j30 j31 : Value) : evC (yty.en tab6) rtm_Z_h (cAt [1, 1, 1, 1] (bdy Try.f13)) ⟨[.agg (byC K), .agg (rpC q), .pointer (some ⟨0, 0, none⟩), .pointer (some ⟨1, 0, none⟩), .pointer (some ⟨2, 0, none⟩), .pointer (some ⟨3, 0, none⟩), .pointer (some ⟨4, 0, none⟩), .int .i64 i, .agg (nuC dN), .agg (rpC (⟨0, 1, 1⟩ : P3)), j10, j11, j12, j13, j14, j15, j16, j17, j18, j19, j20, j21, j22, j23, j24, j25, j26, j27, j28, j29, j30, j31], [((byC K), 23), ((rpC q), 34), ((rpC (⟨0, 0, 0⟩ : P3)), 34), ((nuC dN), 32), ((rpC O), 34)], True, []⟩ = some (.ret, ⟨[.agg (byC K), .agg (rpC q), .pointer (some ⟨0, 0, none⟩), .pointer (some ⟨1, 0, none⟩), .pointer (some ⟨2, 0, none⟩), .pointer (some ⟨3, 0, none⟩), .pointer (some ⟨4, 0, none⟩), .int .i64 i, .agg (nuC dN), .agg (rpC (⟨0, 1, 1⟩ : P3)), j10, j11, j12, j13, j14, j15, j16, j17, j18, j19, j20, j21, j22, j23, j24, j25, j26, j27, j28, j29, j30, .agg (rpC O)], [((byC K), 23), ((rpC q), 34), ((rpC O), 34), ((nuC dN), 32), ((rpC O), 34)], ((True ∧ True) ∧ ((rpC O).all (fun v => v.oneCell') = true)), []⟩) := by kernel_rfl
theorem rtm_Z_r (K i : Int) (q O : P3) (j10 j11 j12 j13 j14 j15 j16 j17 j18 j19 j20 j21 j22 j23 j24 j25 j26 j27 j28 j29 j30 j31 : Value) (hK : Ok K) (hq : Nu3 q) (hO : Nu3 O)  {c0 : Prop} {ch0 : List (Option Value)} : Runs Try.prog (cAt [1, 1, 1, 1] (bdy Try.f13)) ⟨[.agg (byC K), .agg (rpC q), .pointer (some ⟨0, 0, none⟩), .pointer (some ⟨1, 0, none⟩), .pointer (some ⟨2, 0, none⟩), .pointer (some ⟨3, 0, none⟩), .pointer (some ⟨4, 0, none⟩), .int .i64 i, .agg (nuC dN), .agg (rpC (⟨0, 1, 1⟩ : P3)), j10, j11, j12, j13, j14, j15, j16, j17, j18, j19, j20, j21, j22, j23, j24, j25, j26, j27, j28, j29, j30, j31], [((byC K), 23), ((rpC q), 34), ((rpC (⟨0, 0, 0⟩ : P3)), 34), ((nuC dN), 32), ((rpC O), 34)], c0, ch0⟩ (fun e s => e = .ret ∧ ∃ c ch, s = ⟨[.agg (byC K), .agg (rpC q), .pointer (some ⟨0, 0, none⟩), .pointer (some ⟨1, 0, none⟩), .pointer (some ⟨2, 0, none⟩), .pointer (some ⟨3, 0, none⟩), .pointer (some ⟨4, 0, none⟩), .int .i64 i, .agg (nuC dN), .agg (rpC (⟨0, 1, 1⟩ : P3)), j10, j11, j12, j13, j14, j15, j16, j17, j18, j19, j20, j21, j22, j23, j24, j25, j26, j27, j28, j29, j30, .agg (rpC O)], [((byC K), 23), ((rpC q), 34), ((rpC O), 34), ((nuC dN), 32), ((rpC O), 34)], c, ch⟩) := by
  refine (runs_ev mixed [] (rtm_Z_0 K i q O j10 j11 j12 j13 j14 j15 j16 j17 j18 j19 j20 j21 j22 j23 j24 j25 j26 j27 j28 j29 j30 j31) ⟨⟨trivial, trivial⟩, rpC_one _⟩).mono ?_
  rintro e s ⟨rfl, rfl⟩
  exact ⟨rfl, _, _, rfl⟩
theorem rtm_shape : bdy Try.f13 = .seq (cAt [0] (bdy Try.f13)) (.seq (cAt [1, 0] (bdy Try.f13)) (.seq (cAt [1, 1, 0] (bdy Try.f13)) (.seq (.seq (cAt [1, 1, 1, 0, 0] (bdy Try.f13)) (.block 0 (.loop (cAt [1, 1, 1, 0, 1, 0, 0] (bdy Try.f13))))) (cAt [1, 1, 1, 1] (bdy Try.f13))))) := by kernel_rfl
/-- The document's sum so far, from the highest bit. -/
def rtO (K : Int) (q : P3) : Nat → P3
  | 0 => ⟨0, 1, 1⟩
  | n + 1 => cond (decide (bitK K (255 - n) = 1)) (rab_R (rab_R (rtO K q n) (rtO K q n) dN) q dN) (rab_R (rtO K q n) (rtO K q n) dN)
theorem nu_rtO (K : Int) (q : P3) : ∀ n, Nu3 (rtO K q n)
  | 0 => ⟨bd_0, bd_1, bd_1⟩
  | n + 1 => by
    unfold rtO
    cases decide (bitK K (255 - n) = 1) with
    | true => exact nu3_ab _ _ _
    | false => exact nu3_ab _ _ _
def rtmT (K : Int) (q : P3) (i : Int) (j : Nat → Value) : List Value := [.agg (byC K), .agg (rpC q), .pointer (some ⟨0, 0, none⟩), .pointer (some ⟨1, 0, none⟩), .pointer (some ⟨2, 0, none⟩), .pointer (some ⟨3, 0, none⟩), .pointer (some ⟨4, 0, none⟩), .int .i64 i, .agg (nuC dN), .agg (rpC (⟨0, 1, 1⟩ : P3)), j 10, j 11, j 12, j 13, j 14, j 15, j 16, j 17, j 18, j 19, j 20, j 21, j 22, j 23, j 24, j 25, j 26, j 27, j 28, j 29, j 30, j 31]
def rtmM (K : Int) (q : P3) (n : Nat) : List (Array Value × TypeId) := [((byC K), 23), ((rpC q), 34), ((rpC (⟨0, 0, 0⟩ : P3)), 34), ((nuC dN), 32), ((rpC (rtO K q n)), 34)]
theorem rtm_loop (K : Int) (q : P3) (hK : Ok K) (hq : Nu3 q) (j0 : Nat → Value) (c0 : Prop) (ch0 : List (Option Value)) : Runs Try.prog (.loop (cAt [1, 1, 1, 0, 1, 0, 0] (bdy Try.f13))) ⟨rtmT K q 255 j0, rtmM K q 0, c0, ch0⟩ (fun e s => e = .exit 0 ∧ ∃ i j c ch, s = ⟨rtmT K q i j, rtmM K q 256, c, ch⟩) := by
  refine runs_loop (fun m s => ∃ n i j c ch, n ≤ 256 ∧ m = 256 - n ∧ i = 255 - (n : Int) ∧ s = ⟨rtmT K q i j, rtmM K q n, c, ch⟩) 256 ⟨0, 255, j0, c0, ch0, by omega, rfl, by omega, rfl⟩ ?_
  rintro m s ⟨n, i, j, c, ch, hn, rfl, hin, rfl⟩
  have ho := nu_rtO K q n
  by_cases h : n < 256
  · have hi : 0 ≤ i ∧ i < 256 := by omega
    have ht : i.toNat = 255 - n := by omega
    cases hb : decide (bitK K i.toNat = 1) with
    | true =>
      refine (rtm_T_r K i q (rtO K q n) (j 10) (j 11) (j 12) (j 13) (j 14) (j 15) (j 16) (j 17) (j 18) (j 19) (j 20) (j 21) (j 22) (j 23) (j 24) (j 25) (j 26) (j 27) (j 28) (j 29) (j 30) (j 31) hK hq ho hi (decide_eq_true hi.1) hb).mono ?_
      rintro e s ⟨rfl, c, ch, hs'⟩
      refine .inl ⟨rfl, 256 - (n + 1), by omega, n + 1, i - 1, fun k => s.tm.getD k undef, c, ch, by omega, rfl, by omega, ?_⟩
      subst hs'
      have e1 : rtO K q (n + 1) = rab_R (rab_R (rtO K q n) (rtO K q n) dN) q dN := by
        show cond (decide (bitK K (255 - n) = 1)) _ _ = _
        rw [← ht, hb]; rfl
      unfold rtmM
      rw [e1, nn_d, dr_rpC _ ho, dr_rpC _ hq, dr_rpC _ (nu3_ab _ _ _)]
      rfl
    | false =>
      refine (rtm_F_r K i q (rtO K q n) (j 10) (j 11) (j 12) (j 13) (j 14) (j 15) (j 16) (j 17) (j 18) (j 19) (j 20) (j 21) (j 22) (j 23) (j 24) (j 25) (j 26) (j 27) (j 28) (j 29) (j 30) (j 31) hK hq ho hi (decide_eq_true hi.1) hb).mono ?_
      rintro e s ⟨rfl, c, ch, hs'⟩
      refine .inl ⟨rfl, 256 - (n + 1), by omega, n + 1, i - 1, fun k => s.tm.getD k undef, c, ch, by omega, rfl, by omega, ?_⟩
      subst hs'
      have e1 : rtO K q (n + 1) = rab_R (rtO K q n) (rtO K q n) dN := by
        show cond (decide (bitK K (255 - n) = 1)) _ _ = _
        rw [← ht, hb]; rfl
      unfold rtmM
      rw [e1, nn_d, dr_rpC _ ho]
      rfl
  · have : n = 256 := by omega
    subst this
    refine (rtm_E_r K i q (rtO K q 256) (j 10) (j 11) (j 12) (j 13) (j 14) (j 15) (j 16) (j 17) (j 18) (j 19) (j 20) (j 21) (j 22) (j 23) (j 24) (j 25) (j 26) (j 27) (j 28) (j 29) (j 30) (j 31) hK hq ho (decide_eq_false (by omega))).mono ?_
    rintro e s ⟨rfl, c, ch, hs'⟩
    refine .inr ⟨by simp, rfl, i, fun k => s.tm.getD k undef, c, ch, ?_⟩
    subst hs'
    rfl
def rtimP (K : Int) (q : P3) : P3 := rtO K q 256
theorem nu3_tim (K : Int) (q : P3) : Nu3 (rtimP K q) := nu_rtO K q 256
theorem RTimes_c (K : Int) (q : P3) (hK : Ok K) (hq : Nu3 q) : Pure Try.prog 13 #[.agg (byC K), .agg (rpC q)] (.agg (rpC (rtimP K q))) := by
  refine pure_runs (E := yty.en tab6) Try.func13 (c := bdy Try.f13) (by kernel_rfl) (args := [.agg (byC K), .agg (rpC q)]) rfl (K := fun e s => e = .ret ∧ resS (yty.en tab6) s Try.f13.results.toList = some [.agg (rpC (rtimP K q))]) ?_ (fun e s h => ⟨h.1, _, h.2, rfl⟩)
  rw [rtm_shape]
  refine runs_seq (rtm_A_r K q hK hq) (fun s h => ?_) (fun e s hne h => absurd h.1 hne)
  obtain ⟨_, c, ch, rfl⟩ := h
  refine runs_seq (rtm_B_r K q hK hq) (fun s h => ?_) (fun e s hne h => absurd h.1 hne)
  obtain ⟨_, c, ch, rfl⟩ := h
  refine runs_seq (rtm_C_r K q hK hq) (fun s h => ?_) (fun e s hne h => absurd h.1 hne)
  obtain ⟨_, c, ch, rfl⟩ := h
  refine runs_seq (K1 := fun e s => e = .normal ∧ ∃ i j c ch, s = ⟨rtmT K q i j, rtmM K q 256, c, ch⟩) ?_ (fun s h => ?_) (fun e s hne h => absurd h.1 hne)
  · refine runs_seq (rtm_D_r K q hK hq) (fun s h => ?_) (fun e s hne h => absurd h.1 hne)
    obtain ⟨_, c, ch, rfl⟩ := h
    refine runs_block (rtm_loop K q hK hq (fun _ => undef) c ch) ?_
    rintro e s ⟨rfl, i, j, c, ch, rfl⟩
    exact .inl ⟨rfl, rfl, i, j, c, ch, rfl⟩
  · obtain ⟨_, i, j, c, ch, rfl⟩ := h
    refine (rtm_Z_r K i q (rtO K q 256) (j 10) (j 11) (j 12) (j 13) (j 14) (j 15) (j 16) (j 17) (j 18) (j 19) (j 20) (j 21) (j 22) (j 23) (j 24) (j 25) (j 26) (j 27) (j 28) (j 29) (j 30) (j 31) hK hq (nu_rtO K q 256)).mono ?_
    rintro e s ⟨rfl, c, ch, rfl⟩
    exact ⟨rfl, by kernel_rfl⟩
/-- So many times: both are the group's. -/
theorem bit_nat {K : Int} (hK : Ok K) (n : Nat) : bitK K n = ((K.toNat / 2 ^ n % 2 : Nat) : Int) := by
  unfold bitK
  conv => lhs; rw [← Int.toNat_of_nonneg hK.1]
  rw [Int.natCast_emod, Int.natCast_ediv, Int.natCast_pow]
  rfl
theorem rep_timQ {p : P4} {a : Pt} (h : RepP p a) : ∀ n, RepP (timQ p n) (Pt.tm (2 ^ n) a)
  | 0 => by rw [Nat.pow_zero, Pt.tm_one]; exact h
  | n + 1 => by
    have := rep_dbl (rep_timQ h n)
    rw [← Pt.tm_dbl, ← Nat.pow_succ'] at this
    exact this
theorem rep_timS {K : Int} (hK : Ok K) {p : P4} {a : Pt} (h : RepP p a) : ∀ n, RepP (timS K p n) (Pt.tm (K.toNat % 2 ^ n) a)
  | 0 => by rw [Nat.pow_zero, Nat.mod_one, Pt.tm_0]; exact rep_id
  | n + 1 => by
    have ih := rep_timS hK h n
    have e : K.toNat % 2 ^ (n + 1) = K.toNat % 2 ^ n + 2 ^ n * (K.toNat / 2 ^ n % 2) := by rw [Nat.pow_succ, Nat.mod_mul]
    have hb := bit_nat hK n
    unfold timS
    rcases Nat.mod_two_eq_zero_or_one (K.toNat / 2 ^ n) with h0 | h1
    · rw [decide_eq_false (by rw [hb, h0]; decide), e, h0, Nat.mul_zero, Nat.add_zero]
      exact ih
    · rw [decide_eq_true (by rw [hb, h1]; rfl), e, h1, Nat.mul_one, Pt.tm_add]
      exact rep_add ih (rep_timQ h n)
theorem repn_rtO {K : Int} (hK : Ok K) {q : P3} {a : Pt} (h : RepN q a) : ∀ n, n ≤ 256 → RepN (rtO K q n) (Pt.tm (K.toNat / 2 ^ (256 - n)) a)
  | 0, _ => by
    have : K.toNat / 2 ^ (256 - 0) = 0 := Nat.div_eq_of_lt (by have := hK.2; rw [show (2 : Nat) ^ (256 - 0) = 115792089237316195423570985008687907853269984665640564039457584007913129639936 by decide]; omega)
    rw [this, Pt.tm_0]; exact repn_id
  | n + 1, hn => by
    have ih := repn_rtO hK h n (by omega)
    have h2 := repn_add ih ih
    rw [← Pt.tm_dbl] at h2
    have hb := bit_nat hK (255 - n)
    have e : K.toNat / 2 ^ (256 - (n + 1)) = 2 * (K.toNat / 2 ^ (256 - n)) + K.toNat / 2 ^ (255 - n) % 2 := by
      rw [show 256 - (n + 1) = 255 - n by omega, show 256 - n = (255 - n) + 1 by omega, Nat.pow_succ, ← Nat.div_div_eq_div_mul]
      omega
    unfold rtO
    rcases Nat.mod_two_eq_zero_or_one (K.toNat / 2 ^ (255 - n)) with h0 | h1
    · rw [decide_eq_false (by rw [hb, h0]; decide), e, h0, Nat.add_zero]
      exact h2
    · rw [decide_eq_true (by rw [hb, h1]; rfl), e, h1, Pt.tm_s]
      exact repn_add h2 h
theorem rep_tim {K : Int} (hK : Ok K) {p : P4} {a : Pt} (h : RepP p a) : RepP (timP K p) (Pt.tm K.toNat a) := by
  have := rep_timS hK h 256
  rwa [Nat.mod_eq_of_lt (by have := hK.2; rw [show (2 : Nat) ^ 256 = 115792089237316195423570985008687907853269984665640564039457584007913129639936 by decide]; omega)] at this
theorem repn_tim {K : Int} (hK : Ok K) {q : P3} {a : Pt} (h : RepN q a) : RepN (rtimP K q) (Pt.tm K.toNat a) := by
  have := repn_rtO hK h 256 (by omega)
  rwa [Nat.sub_self, Nat.pow_zero, Nat.div_one] at this
def pTimes : Entry Try.prog := ent2 Try.func12 (by kernel_rfl) (by kernel_rfl) byD ptD (fun (K : Int) p => .agg (ptC (timP K p))) (fun K p hK hp => Times_c K p hK hp)
def qTimes : Entry Try.prog := ent2 Try.func13 (by kernel_rfl) (by kernel_rfl) byD rpD (fun (K : Int) q => .agg (rpC (rtimP K q))) (fun K q hK hq => RTimes_c K q hK hq)

end Go.Proofs.Ytlbofcgjdbfenaa
