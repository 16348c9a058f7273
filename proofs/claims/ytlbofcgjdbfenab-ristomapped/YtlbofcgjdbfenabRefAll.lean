import Derived.Test.YtlbofcgjdbfenabNumAll
import Derived.Test.YtlbofcgjdbfenabFMath
set_option linter.unusedSimpArgs false
namespace Go.Proofs.Ytlbofcgjdbfenab
open Go.RowKit
theorem aggW4 : Calm.AggT Try.prog 23 4 := ⟨⟨_, Try.underlying23, rfl⟩, by kernel_rfl⟩
theorem zeroW4 : (Try.prog.info? 23).bind (·.zero) = some (.agg #[.int .u64 0, .int .u64 0, .int .u64 0, .int .u64 0]) := by kernel_rfl
theorem nu_lt (n : Int) : ∀ j, j < 8 → 0 ≤ nuG n j ∧ nuG n j < 1099511627776 := fun j _ => by have := nuG_bd n j; omega
theorem wd32_key (X : Nat) (q r : Nat) (hr : r < 2) : (X / 2 ^ (64 * q) % 18446744073709551616) / 2 ^ (32 * r) % 4294967296 = X / 4294967296 ^ (2 * q + r) % 4294967296 := by
  have e1 : (4294967296 : Nat) ^ (2 * q + r) = 2 ^ (64 * q) * 2 ^ (32 * r) := by
    rw [show (4294967296 : Nat) = 2 ^ 32 from rfl, ← Nat.pow_mul, ← Nat.pow_add]; congr 1; omega
  have e2 : (18446744073709551616 : Nat) = 2 ^ (32 * r) * (2 ^ (32 - 32 * r) * 4294967296) := by
    rw [← Nat.mul_assoc, ← Nat.pow_add, show 32 * r + (32 - 32 * r) = 32 by omega]
  rw [e1, ← Nat.div_div_eq_div_mul]
  generalize X / 2 ^ (64 * q) = y
  rw [e2, Nat.mod_mul_right_div_self, Nat.mod_mul_left_mod]
theorem wd32_at (X : Int) (hX : Ok X) (q r s : Nat) (hq : q < 4) (hr : r < 2) (hs : s = 32 * r) : ∃ x : Int, (feC X)[q]? = some (.int .u64 x) ∧ 0 ≤ x ∧ x < 18446744073709551616 ∧ Hid (x / 2 ^ s % 4294967296 = nuG X (2 * q + r)) := by
  unfold Ok at hX
  obtain ⟨Y, rfl⟩ := Int.eq_ofNat_of_zero_le hX.1
  have key := wd32_key Y q r hr
  have fin : ∀ x : Nat, x = Y / 2 ^ (64 * q) % 18446744073709551616 → Hid (((x : Nat) : Int) / 2 ^ s % 4294967296 = nuG (Y : Int) (2 * q + r)) := by
    intro x hx
    unfold Hid nuG
    rw [hs, hx]
    have h := congrArg (fun n : Nat => (n : Int)) key
    simp only [Int.natCast_emod, Int.natCast_ediv, Int.natCast_pow] at h ⊢
    exact h
  have c : q = 0 ∨ q = 1 ∨ q = 2 ∨ q = 3 := by omega
  rcases c with rfl | rfl | rfl | rfl
  · exact ⟨((Y % 18446744073709551616 : Nat) : Int), by rw [Int.natCast_emod]; rfl, by omega, by omega, fin _ (by rw [show 2 ^ (64 * 0) = 1 from rfl]; omega)⟩
  · exact ⟨((Y / 18446744073709551616 % 18446744073709551616 : Nat) : Int), by rw [Int.natCast_emod, Int.natCast_ediv]; rfl, by omega, by omega, fin _ rfl⟩
  · exact ⟨((Y / 340282366920938463463374607431768211456 % 18446744073709551616 : Nat) : Int), by rw [Int.natCast_emod, Int.natCast_ediv]; rfl, by omega, by omega, fin _ rfl⟩
  · exact ⟨((Y / 6277101735386680763835789423207666416102355444464034512896 % 18446744073709551616 : Nat) : Int), by rw [Int.natCast_emod, Int.natCast_ediv]; rfl, by omega, by omega, fin _ rfl⟩
end Go.Proofs.Ytlbofcgjdbfenab

set_option linter.unusedSimpArgs false
namespace Go.Proofs.Ytlbofcgjdbfenab
open Go.RowKit
theorem val_add (f h : Nat → Int) : ∀ k, val (fun j => f j + h j) k = val f k + val h k
  | 0 => rfl
  | k + 1 => by
    simp only [val]
    rw [val_add f h k, Int.add_mul]
    omega
/-- A borrow has gone through k digits of h less p, written into g. -/
structure Bo2 (p h g : Nat → Int) (c : Int) (k : Nat) : Prop where
  lo : ∀ j, j < k → 0 ≤ g j ∧ g j < 4294967296
  c0 : 0 ≤ c
  c1 : c ≤ 1
  eq : val g k - c * 4294967296 ^ k = val h k - val p k
theorem Bo2.step {p h g : Nat → Int} {c : Int} {k : Nat} (H : Bo2 p h g c k) (hh : 0 ≤ h k ∧ h k < 4294967296) (hp : 0 ≤ p k ∧ p k < 4294967296) : Bo2 p h (upd g k ((4294967296 + h k - p k - c) % 4294967296)) (1 - (4294967296 + h k - p k - c) / 4294967296) (k + 1) := by
  have hc0 := H.c0
  have hc1 := H.c1
  refine ⟨fun j hj => ?_, by omega, by omega, ?_⟩
  · by_cases e : j = k
    · subst e; rw [upd_eq]; omega
    · rw [upd_ne _ _ _ e]; exact H.lo j (by omega)
  · have he := H.eq
    simp only [val]
    rw [upd_eq, val_upd, Int.pow_succ]
    have hd := Int.emod_add_mul_ediv (4294967296 + h k - p k - c) 4294967296
    generalize (4294967296 + h k - p k - c) % 4294967296 = r at *
    generalize (4294967296 + h k - p k - c) / 4294967296 = q at *
    have e1 : h k = r + 4294967296 * q - 4294967296 + p k + c := by omega
    rw [e1]
    have e2 : val h k = val g k - c * 4294967296 ^ k + val p k := by omega
    rw [e2]
    grind
theorem nuC_size (n : Int) : (nuC n).size = 8 := nuF_size _
end Go.Proofs.Ytlbofcgjdbfenab

set_option linter.unusedSimpArgs false
namespace Go.Proofs.Ytlbofcgjdbfenab
open Go.RowKit
/-- Four words, by number. -/
def w4F (x : Nat → Int) : Array Value := #[.int .u64 (x 0), .int .u64 (x 1), .int .u64 (x 2), .int .u64 (x 3)]
theorem w4_at (x : Nat → Int) (q : Nat) (hq : q < 4) : (w4F x)[q]? = some (.int .u64 (x q)) := by
  have c : q = 0 ∨ q = 1 ∨ q = 2 ∨ q = 3 := by omega
  rcases c with rfl | rfl | rfl | rfl <;> rfl
theorem w4_set (x : Nat → Int) (q : Nat) (v : Int) (hq : q < 4) : w4F (upd x q v) = (w4F x).setIfInBounds q (.int .u64 v) := by
  have c : q = 0 ∨ q = 1 ∨ q = 2 ∨ q = 3 := by omega
  rcases c with rfl | rfl | rfl | rfl <;> simp [w4F, upd]
/-- The q-th word when the digits from k on have been read. -/
def tw (n : Int) (k q : Nat) : Int := n / 18446744073709551616 ^ q % 18446744073709551616 / 4294967296 ^ (k - 2 * q)
theorem tw_step (n : Int) (m : Nat) (hm : m < 8) : tw n (m + 1) (m / 2) * 4294967296 + nuG n m = tw n m (m / 2) := by
  refine lt8 (P := fun m => tw n (m + 1) (m / 2) * 4294967296 + nuG n m = tw n m (m / 2)) hm ?_ ?_ ?_ ?_ ?_ ?_ ?_ ?_ <;> (unfold tw nuG; simp; omega)
theorem tw_same (n : Int) (m q : Nat) (_hm : m < 8) (_hq : q < 4) (hne : q ≠ m / 2) : tw n (m + 1) q = tw n m q := by
  unfold tw
  rcases Nat.lt_or_ge (2 * q) m with h | h
  · have h1 : 2 * q + 2 ≤ m := by omega
    have hb : 0 ≤ n / 18446744073709551616 ^ q % 18446744073709551616 ∧ n / 18446744073709551616 ^ q % 18446744073709551616 < 18446744073709551616 := by omega
    generalize n / 18446744073709551616 ^ q % 18446744073709551616 = y at *
    have key : ∀ d, 2 ≤ d → y / (4294967296 : Int) ^ d = 0 := by
      intro d hd
      refine Int.ediv_eq_zero_of_lt hb.1 (Int.lt_of_lt_of_le hb.2 ?_)
      obtain ⟨e, rfl⟩ : ∃ e, d = 2 + e := ⟨d - 2, by omega⟩
      rw [Int.pow_add]
      have := bpos e
      show 18446744073709551616 ≤ 18446744073709551616 * (4294967296 : Int) ^ e
      omega
    rw [key _ (by omega), key _ (by omega)]
  · rw [show m + 1 - 2 * q = 0 by omega, show m - 2 * q = 0 by omega]
theorem tw_8 (n : Int) : ∀ q, q < 4 → tw n 8 q = 0 := by
  intro q hq
  have c : q = 0 ∨ q = 1 ∨ q = 2 ∨ q = 3 := by omega
  rcases c with rfl | rfl | rfl | rfl <;> (unfold tw; simp; omega)
theorem tw_bd (n : Int) (k q : Nat) : 0 ≤ tw n k q ∧ tw n k q < 18446744073709551616 := by
  unfold tw
  have hb : 0 ≤ n / 18446744073709551616 ^ q % 18446744073709551616 ∧ n / 18446744073709551616 ^ q % 18446744073709551616 < 18446744073709551616 := by omega
  have hp := bpos (k - 2 * q)
  refine ⟨Int.ediv_nonneg hb.1 (by omega), Int.lt_of_le_of_lt (Int.ediv_le_self _ hb.1) hb.2⟩
theorem tw_hi (n : Int) (m : Nat) (hm : m < 8) : tw n (m + 1) (m / 2) < 4294967296 := by
  have h1 := tw_step n m hm
  have h2 := tw_bd n m (m / 2)
  have h3 := nuG_bd n m
  omega
theorem tw_0 (n : Int) : w4F (tw n 0) = feC n := by
  unfold w4F tw feC
  simp
end Go.Proofs.Ytlbofcgjdbfenab

set_option linter.unusedSimpArgs false
namespace Go.Proofs.Ytlbofcgjdbfenab
open Go.RowKit
theorem feC_small (n : Int) (h0 : 0 ≤ n) (h1 : n < 18446744073709551616) : feC n = #[.int .u64 n, .int .u64 0, .int .u64 0, .int .u64 0] := by
  unfold feC
  rw [show n % 18446744073709551616 = n by omega, show n / 18446744073709551616 % 18446744073709551616 = 0 by omega, show n / 340282366920938463463374607431768211456 % 18446744073709551616 = 0 by omega, show n / 6277101735386680763835789423207666416102355444464034512896 % 18446744073709551616 = 0 by omega]
theorem arrNu : Calm.ArrT Try.prog 90 8 .u64 := ⟨⟨_, Try.underlying90, Try.underlying22, by kernel_rfl⟩, by kernel_rfl⟩
def nuL (n : Int) : List Int := (List.range 8).map (nuG n)
theorem nuC_list (n : Int) : nuC n = ((nuL n).map (Value.int .u64)).toArray := by unfold nuC nuF nuL; rw [List.map_map]; rfl
theorem nuL_len (n : Int) : (nuL n).length = 8 := by simp [nuL]
theorem nuL_inj {X Y : Int} (hX : Ok X) (hY : Ok Y) : (nuL X == nuL Y) = decide (X = Y) := by
  rw [Bool.eq_iff_iff, beq_iff_eq, decide_eq_true_iff]
  constructor
  · intro h
    rw [← val_nu X hX, ← val_nu Y hY]
    refine val_ext _ _ _ fun j hj => ?_
    have h2 := congrArg (fun l : List Int => l[j]?) h
    simpa [nuL, hj] using h2
  · intro h; rw [h]
section
variable {ops : Array Oper} {rest : List Oper} {o : Oper} {a : Act} {W : World} {Q : Exit → Act → World → Prop}
theorem wl_eqNu {X Y : Int} {x y : Operand} {u : TypeId} (ho : o.op = .binOp .eql 90 x y u) (hw : Region.wanted o (yielded ops a.tmps) = true) (hx : a.eval x = .agg (nuC X)) (hy : a.eval y = .agg (nuC Y)) (hX : Ok X) (hY : Ok Y)
    (h : wpList Try.prog ops Q rest (a.put o.dst (.bool (decide (X = Y)))) W) : wpList Try.prog ops Q (o :: rest) a W :=
  Calm.wl_val hw (fun w => by
    rw [nuC_list] at hx hy
    rw [← nuL_inj hX hY]
    exact Calm.exec_eql arrNu (nuL X) (nuL Y) (nuL_len X) (nuL_len Y) ho hx hy w) h
end
theorem nu0 (n : Int) : nuG n 0 % 2 = n % 2 := by unfold nuG; simp
def absR (n : Int) : Int := if n % 2 = 1 then -n % pr else n
end Go.Proofs.Ytlbofcgjdbfenab

set_option linter.unusedSimpArgs false
namespace Go.Proofs.Ytlbofcgjdbfenab
open Go.RowKit
/-- Sixteen digits. -/
def nxF (g : Nat → Int) : Array Value := ((List.range 16).map fun j => Value.int .u64 (g j)).toArray
theorem nxF_size (g : Nat → Int) : (nxF g).size = 16 := by simp [nxF]
theorem nxF_at (g : Nat → Int) (k : Nat) (hk : k < 16) : (nxF g)[k]? = some (.int .u64 (g k)) := by simp [nxF, hk]
theorem nxF_set (g : Nat → Int) (k : Nat) (v : Int) : nxF (upd g k v) = (nxF g).setIfInBounds k (.int .u64 v) := by
  unfold nxF
  apply Array.ext
  · simp
  · intro i h1 h2
    rw [Array.getElem_setIfInBounds (by simpa using h1)]
    simp only [List.getElem_toArray, List.getElem_map, List.getElem_range]
    by_cases h : k = i
    · subst h; simp [upd]
    · rw [if_neg h, upd_ne _ _ _ (fun e => h e.symm)]
theorem val_updG (h : Nat → Int) (j : Nat) (v : Int) : ∀ n, j < n → val (upd h j v) n = val h n + (v - h j) * 4294967296 ^ j
  | 0, hj => by omega
  | n + 1, hj => by
    simp only [val]
    by_cases e : j = n
    · subst e; rw [val_upd, upd_eq, Int.sub_mul]; omega
    · rw [val_updG h j v n (by omega), upd_ne _ _ _ (fun h => e h.symm)]; omega
theorem val_split (h : Nat → Int) : ∀ m, val h (8 + m) = val h 8 + 4294967296 ^ 8 * val (fun j => h (j + 8)) m
  | 0 => by simp [val]
  | m + 1 => by
    rw [show 8 + (m + 1) = (8 + m) + 1 from rfl]
    simp only [val]
    have ih := val_split h m
    simp only [val] at ih
    rw [ih, Int.pow_add, show 8 + m = m + 8 by omega]
    grind
theorem val_zero (n : Nat) : val (fun _ => 0) n = 0 := by
  induction n with
  | zero => rfl
  | succ n ih => simp [val, ih]
theorem val_fold (h : Nat → Int) : val (fun j => h j + 38 * h (j + 8)) 8 % pr = val h 16 % pr := by
  have e : val (fun j => h j + 38 * h (j + 8)) 8 = val h 8 + 38 * val (fun j => h (j + 8)) 8 := by
    have e1 : val (fun j => 38 * h (j + 8)) 8 = 38 * val (fun j => h (j + 8)) 8 := by rw [val8, val8]; omega
    rw [val_add h (fun j => 38 * h (j + 8)), e1]
  rw [e, show val h 16 = val h (8 + 8) from rfl, val_split h 8, b8]
  unfold pr
  omega
/-- Behind k digits of the i-th row. -/
structure Row (a b h g : Nat → Int) (i : Nat) (c : Int) (k : Nat) : Prop where
  bd : ∀ j, 0 ≤ g j ∧ g j < 4294967296
  hi : ∀ j, i + 8 ≤ j → g j = 0
  c0 : 0 ≤ c
  c1 : c < 4294967296
  eq : val g 16 + c * 4294967296 ^ (i + k) = val h 16 + a i * 4294967296 ^ i * val b k
theorem Row.step {a b h g : Nat → Int} {i : Nat} {c : Int} {k : Nat} (R : Row a b h g i c k) (hi : i < 8) (hk : k < 8) (t : Int) (ht : t = c + g (i + k) + a i * b k) (h0 : 0 ≤ t) (h1 : t < 18446744073709551616) : Row a b h (upd g (i + k) (t % 4294967296)) i (t / 4294967296) (k + 1) := by
  refine ⟨fun j => ?_, fun j hj => ?_, by omega, by omega, ?_⟩
  · by_cases e : j = i + k
    · subst e; rw [upd_eq]; omega
    · rw [upd_ne _ _ _ e]; exact R.bd j
  · rw [upd_ne _ _ _ (by omega)]; exact R.hi j hj
  · have he := R.eq
    rw [val_updG _ _ _ 16 (by omega), show val b (k + 1) = val b k + b k * 4294967296 ^ k from rfl]
    have hd := Int.emod_add_mul_ediv t 4294967296
    generalize t % 4294967296 = r at *
    generalize t / 4294967296 = q at *
    rw [show i + (k + 1) = i + k + 1 from rfl, Int.pow_succ]
    have e1 : val g 16 = val h 16 + a i * 4294967296 ^ i * val b k - c * 4294967296 ^ (i + k) := by omega
    have e2 : r = c + g (i + k) + a i * b k - 4294967296 * q := by omega
    rw [e1, e2, Int.pow_add]
    grind
theorem prod_bd (x y : Int) (hx : 0 ≤ x ∧ x < 4294967296) (hy : 0 ≤ y ∧ y < 4294967296) : 0 ≤ x * y ∧ x * y ≤ 18446744065119617025 := by
  refine ⟨Int.mul_nonneg hx.1 hy.1, ?_⟩
  have := Int.mul_le_mul (show x ≤ 4294967295 by omega) (show y ≤ 4294967295 by omega) hy.1 (by omega)
  omega
end Go.Proofs.Ytlbofcgjdbfenab
