import Derived.Test.YtbjllhcjbblojaaZRSardNumAll
import Derived.Test.YtbjllhcjbblojaaZRSardMthAll
set_option linter.unusedSimpArgs false
namespace Go.Proofs.Ytbjllhcjbblojaa
open Go.RowKit
end Go.Proofs.Ytbjllhcjbblojaa

set_option linter.unusedSimpArgs false
namespace Go.Proofs.Ytbjllhcjbblojaa
open Go.RowKit
theorem val_add (f h : Nat → Int) : ∀ k, val (fun j => f j + h j) k = val f k + val h k
  | 0 => rfl
  | k + 1 => by
    simp only [val]
    rw [val_add f h k, Int.add_mul]
    omega
structure Bo2 (p h g : Nat → Int) (c : Int) (k : Nat) : Prop where
  lo : ∀ j, j < k → 0 ≤ g j ∧ g j < 4294967296
  c0 : 0 ≤ c
  c1 : c ≤ 1
  eq : val g k - c * 4294967296 ^ k = val h k - val p k
theorem Bo2.step {p h g : Nat → Int} {c : Int} {k : Nat} (H : Bo2 p h g c k) (hh : 0 ≤ h k ∧ h k < 4294967296) (hp : 0 ≤ p k ∧ p k < 4294967296) : Bo2 p h (upd g k ((4294967296 + h k - p k - c) % 4294967296)) (1 - (4294967296 + h k - p k - c) / 4294967296) (k + 1) := by
  have hc0 := H.c0
  have hc1 := H.c1
  refine ⟨fun j hj => ?_, by omega, by omega, ?_⟩
  · by_cases e : j = k
    · subst e; rw [upd_eq]; omega
    · rw [upd_ne _ _ _ e]; exact H.lo j (by omega)
  · have he := H.eq
    simp only [val]
    rw [upd_eq, val_upd, Int.pow_succ]
    have hd := Int.emod_add_mul_ediv (4294967296 + h k - p k - c) 4294967296
    generalize (4294967296 + h k - p k - c) % 4294967296 = r at *
    generalize (4294967296 + h k - p k - c) / 4294967296 = q at *
    have e1 : h k = r + 4294967296 * q - 4294967296 + p k + c := by omega
    rw [e1]
    have e2 : val h k = val g k - c * 4294967296 ^ k + val p k := by omega
    rw [e2]
    grind
end Go.Proofs.Ytbjllhcjbblojaa

set_option linter.unusedSimpArgs false
namespace Go.Proofs.Ytbjllhcjbblojaa
open Go.RowKit
end Go.Proofs.Ytbjllhcjbblojaa

set_option linter.unusedSimpArgs false
namespace Go.Proofs.Ytbjllhcjbblojaa
open Go.RowKit Go.Calm
theorem arrNu : Calm.ArrT Try.prog 31 8 .u64 := ⟨⟨_, Try.underlying31, Try.underlying23, by kernel_rfl⟩, by kernel_rfl⟩
def nuL (n : Int) : List Int := (List.range 8).map (nuG n)
theorem nuC_list (n : Int) : nuC n = ((nuL n).map (Value.int .u64)).toArray := by unfold nuC nuF nuL; rw [List.map_map]; rfl
theorem nuL_len (n : Int) : (nuL n).length = 8 := by simp [nuL]
theorem nuL_inj {X Y : Int} (hX : Ok X) (hY : Ok Y) : (nuL X == nuL Y) = decide (X = Y) := by
  rw [Bool.eq_iff_iff, beq_iff_eq, decide_eq_true_iff]
  constructor
  · intro h
    rw [← val_nu X hX, ← val_nu Y hY]
    refine val_ext _ _ _ fun j hj => ?_
    have h2 := congrArg (fun l : List Int => l[j]?) h
    simpa [nuL, hj] using h2
  · intro h; rw [h]
section
variable {ops : Array Oper} {rest : List Oper} {o : Oper} {a : Act} {W : World} {Q : Exit → Act → World → Prop}
end
def absR (n : Int) : Int := if n % 2 = 1 then -n % pr else n
end Go.Proofs.Ytbjllhcjbblojaa

set_option linter.unusedSimpArgs false
namespace Go.Proofs.Ytbjllhcjbblojaa
open Go.RowKit
theorem val_updG (h : Nat → Int) (j : Nat) (v : Int) : ∀ n, j < n → val (upd h j v) n = val h n + (v - h j) * 4294967296 ^ j
  | 0, hj => by omega
  | n + 1, hj => by
    simp only [val]
    by_cases e : j = n
    · subst e; rw [val_upd, upd_eq, Int.sub_mul]; omega
    · rw [val_updG h j v n (by omega), upd_ne _ _ _ (fun h => e h.symm)]; omega
structure Row (a b h g : Nat → Int) (i : Nat) (c : Int) (k : Nat) : Prop where
  bd : ∀ j, 0 ≤ g j ∧ g j < 4294967296
  hi : ∀ j, i + 8 ≤ j → g j = 0
  c0 : 0 ≤ c
  c1 : c < 4294967296
  eq : val g 16 + c * 4294967296 ^ (i + k) = val h 16 + a i * 4294967296 ^ i * val b k
theorem Row.step {a b h g : Nat → Int} {i : Nat} {c : Int} {k : Nat} (R : Row a b h g i c k) (hi : i < 8) (hk : k < 8) (t : Int) (ht : t = c + g (i + k) + a i * b k) (h0 : 0 ≤ t) (h1 : t < 18446744073709551616) : Row a b h (upd g (i + k) (t % 4294967296)) i (t / 4294967296) (k + 1) := by
  refine ⟨fun j => ?_, fun j hj => ?_, by omega, by omega, ?_⟩
  · by_cases e : j = i + k
    · subst e; rw [upd_eq]; omega
    · rw [upd_ne _ _ _ e]; exact R.bd j
  · rw [upd_ne _ _ _ (by omega)]; exact R.hi j hj
  · have he := R.eq
    rw [val_updG _ _ _ 16 (by omega), show val b (k + 1) = val b k + b k * 4294967296 ^ k from rfl]
    have hd := Int.emod_add_mul_ediv t 4294967296
    generalize t % 4294967296 = r at *
    generalize t / 4294967296 = q at *
    rw [show i + (k + 1) = i + k + 1 from rfl, Int.pow_succ]
    have e1 : val g 16 = val h 16 + a i * 4294967296 ^ i * val b k - c * 4294967296 ^ (i + k) := by omega
    have e2 : r = c + g (i + k) + a i * b k - 4294967296 * q := by omega
    rw [e1, e2, Int.pow_add]
    grind
end Go.Proofs.Ytbjllhcjbblojaa
