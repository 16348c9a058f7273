import Derived.Test.YtbjllhcjbblojaaZRSardKnown
set_option linter.unusedSimpArgs false
namespace Go.Proofs.Ytbjllhcjbblojaa
open Go.RowKit Go.Calm

def nuF (g : Nat → Int) : Array Value := ((List.range 8).map fun j => Value.int .u64 (g j)).toArray
def upd (g : Nat → Int) (k : Nat) (v : Int) : Nat → Int := fun j => if j = k then v else g j
theorem upd_eq (g : Nat → Int) (k : Nat) (v : Int) : upd g k v k = v := by simp [upd]
theorem upd_ne (g : Nat → Int) (k : Nat) (v : Int) {j : Nat} (h : j ≠ k) : upd g k v j = g j := by simp [upd, h]
theorem aggNu : Calm.AggT Try.prog 31 8 := ⟨⟨_, Try.underlying31, rfl⟩, by kernel_rfl⟩
theorem zeroNu : (Try.prog.info? 31).bind (·.zero) = some (.agg (nuF fun _ => 0)) := by kernel_rfl
def val (g : Nat → Int) : Nat → Int
  | 0 => 0
  | k + 1 => val g k + g k * 4294967296 ^ k
theorem val_ext (g h : Nat → Int) : ∀ k, (∀ j, j < k → g j = h j) → val g k = val h k
  | 0, _ => rfl
  | k + 1, e => by simp only [val]; rw [val_ext g h k (fun j hj => e j (by omega)), e k (by omega)]
theorem val_upd (g : Nat → Int) (k : Nat) (v : Int) : val (upd g k v) k = val g k := val_ext _ _ _ fun j hj => upd_ne _ _ _ (by omega)
theorem val8 (g : Nat → Int) : val g 8 = g 0 + g 1 * 4294967296 + g 2 * 18446744073709551616 + g 3 * 79228162514264337593543950336 + g 4 * 340282366920938463463374607431768211456 + g 5 * 1461501637330902918203684832716283019655932542976 + g 6 * 6277101735386680763835789423207666416102355444464034512896 + g 7 * 26959946667150639794667015087019630673637144422540572481103610249216 := by
  simp [val]
def nuG (n : Int) : Nat → Int := fun j => n / 4294967296 ^ j % 4294967296
def nuC (n : Int) : Array Value := nuF (nuG n)
theorem bpos (k : Nat) : (0 : Int) < 4294967296 ^ k := Int.pow_pos (by omega)
theorem val_bd (g : Nat → Int) : ∀ k, (∀ j, j < k → 0 ≤ g j ∧ g j < 4294967296) → 0 ≤ val g k ∧ val g k < 4294967296 ^ k
  | 0, _ => by simp [val]
  | k + 1, hb => by
    have ih := val_bd g k (fun j hj => hb j (by omega))
    have hk := hb k (by omega)
    have hp := bpos k
    simp only [val, Int.pow_succ]
    have h1 : 0 ≤ g k * 4294967296 ^ k := Int.mul_nonneg hk.1 (by omega)
    have h2 : g k * 4294967296 ^ k ≤ 4294967295 * 4294967296 ^ k := Int.mul_le_mul_of_nonneg_right (by omega) (by omega)
    omega
theorem val_nu (n : Int) (hn : Ok n) : val (nuG n) 8 = n := by
  unfold Ok at hn
  rw [val8]
  simp only [nuG]
  simp
  omega
end Go.Proofs.Ytbjllhcjbblojaa

set_option linter.unusedSimpArgs false
namespace Go.Proofs.Ytbjllhcjbblojaa
open Go.RowKit
end Go.Proofs.Ytbjllhcjbblojaa

set_option linter.unusedSimpArgs false
namespace Go.Proofs.Ytbjllhcjbblojaa
open Go.RowKit
theorem b8 : (4294967296 : Int) ^ 8 = 115792089237316195423570985008687907853269984665640564039457584007913129639936 := rfl
structure Car (f g : Nat → Int) (c : Int) (k : Nat) : Prop where
  lo : ∀ j, j < k → 0 ≤ g j ∧ g j < 4294967296
  hi : ∀ j, k ≤ j → j < 8 → g j = f j
  c0 : 0 ≤ c
  c1 : c ≤ 512
  eq : val g k + c * 4294967296 ^ k = val f k
theorem Car.start (f : Nat → Int) : Car f f 0 0 := ⟨fun j h => by omega, fun _ _ _ => rfl, by omega, by omega, by simp [val]⟩
theorem Car.step {f g : Nat → Int} {c : Int} {k : Nat} (h : Car f g c k) (hk : k < 8) (hf : 0 ≤ f k ∧ f k < 1099511627776) : Car f (upd g k ((c + g k) % 4294967296)) ((c + g k) / 4294967296) (k + 1) := by
  have hgk := h.hi k (by omega) hk
  have hc0 := h.c0
  have hc1 := h.c1
  refine ⟨fun j hj => ?_, fun j h1 h2 => ?_, by omega, by omega, ?_⟩
  · by_cases e : j = k
    · subst e; rw [upd_eq]; omega
    · rw [upd_ne _ _ _ e]; exact h.lo j (by omega)
  · rw [upd_ne _ _ _ (by omega)]; exact h.hi j (by omega) h2
  · have he := h.eq
    simp only [val]
    rw [upd_eq, val_upd, ← he, ← hgk, Int.pow_succ]
    have hd := Int.emod_add_mul_ediv (c + g k) 4294967296
    generalize (c + g k) % 4294967296 = r at *
    generalize (c + g k) / 4294967296 = q at *
    have : g k = r + 4294967296 * q - c := by omega
    rw [this]
    grind
structure Pas (k : Nat) (g : Nat → Int) : Prop where
  bd : ∀ j, j < 8 → 0 ≤ g j ∧ g j < 1099511627776
  one : 1 ≤ k → ∀ j, 1 ≤ j → j < 8 → g j < 4294967296
  lo : 1 ≤ k → g 0 < 4294986752
  two : 2 ≤ k → g 0 < 4294967296
theorem val_ge0 (h : Nat → Int) (hb : ∀ j, j < 8 → 0 ≤ h j ∧ h j < 4294967296) : h 0 ≤ val h 8 := by
  rw [val8]
  have b1 := hb 1 (by omega)
  have b2 := hb 2 (by omega)
  have b3 := hb 3 (by omega)
  have b4 := hb 4 (by omega)
  have b5 := hb 5 (by omega)
  have b6 := hb 6 (by omega)
  have b7 := hb 7 (by omega)
  omega
theorem val_le1 (g : Nat → Int) (x : Int) (h0 : g 0 < 4294967296 + x) (hb : ∀ j, 1 ≤ j → j < 8 → g j < 4294967296) : val g 8 < 115792089237316195423570985008687907853269984665640564039457584007913129639936 + x := by
  rw [val8]
  have b1 := hb 1 (by omega) (by omega)
  have b2 := hb 2 (by omega) (by omega)
  have b3 := hb 3 (by omega) (by omega)
  have b4 := hb 4 (by omega) (by omega)
  have b5 := hb 5 (by omega) (by omega)
  have b6 := hb 6 (by omega) (by omega)
  have b7 := hb 7 (by omega) (by omega)
  omega
theorem Pas.step {k : Nat} {g h : Nat → Int} {c : Int} (P : Pas k g) (C : Car g h c 8) : Pas (k + 1) (upd h 0 (h 0 + 38 * c)) := by
  have hc0 := C.c0
  have hc1 := C.c1
  have h0 := C.lo 0 (by omega)
  refine ⟨fun j hj => ?_, fun _ j h1 h2 => ?_, fun _ => ?_, fun h2 => ?_⟩
  · by_cases e : j = 0
    · subst e; rw [upd_eq]; omega
    · rw [upd_ne _ _ _ e]; have := C.lo j hj; omega
  · rw [upd_ne _ _ _ (by omega)]; exact (C.lo j h2).2
  · rw [upd_eq]; omega
  · rw [upd_eq]
    have e := C.eq
    rw [b8] at e
    have hv := val_bd h 8 C.lo
    rw [b8] at hv
    have hg := val_ge0 h C.lo
    have hl := val_le1 g 19456 (by have := P.lo (by omega); omega) (P.one (by omega))
    generalize val h 8 = x at *
    generalize val g 8 = y at *
    have : c = 0 ∨ c = 1 := by omega
    rcases this with rfl | rfl <;> omega
structure Bor (p h g : Nat → Int) (c : Int) (k : Nat) : Prop where
  lo : ∀ j, j < k → 0 ≤ g j ∧ g j < 4294967296
  hi : ∀ j, k ≤ j → j < 8 → g j = h j
  c0 : 0 ≤ c
  c1 : c ≤ 1
  eq : val g k - c * 4294967296 ^ k = val h k - val p k
theorem Bor.start (p h : Nat → Int) : Bor p h h 0 0 := ⟨fun j h => by omega, fun _ _ _ => rfl, by omega, by omega, by simp [val]⟩
theorem Bor.step {p h g : Nat → Int} {c : Int} {k : Nat} (H : Bor p h g c k) (hk : k < 8) (hh : 0 ≤ h k ∧ h k < 4294967296) (hp : 0 ≤ p k ∧ p k < 4294967296) : Bor p h (upd g k ((4294967296 + g k - p k - c) % 4294967296)) (1 - (4294967296 + g k - p k - c) / 4294967296) (k + 1) := by
  have hgk := H.hi k (by omega) hk
  have hc0 := H.c0
  have hc1 := H.c1
  refine ⟨fun j hj => ?_, fun j h1 h2 => ?_, by omega, by omega, ?_⟩
  · by_cases e : j = k
    · subst e; rw [upd_eq]; omega
    · rw [upd_ne _ _ _ e]; exact H.lo j (by omega)
  · rw [upd_ne _ _ _ (by omega)]; exact H.hi j (by omega) h2
  · have he := H.eq
    simp only [val]
    rw [upd_eq, val_upd, ← hgk, Int.pow_succ]
    have hd := Int.emod_add_mul_ediv (4294967296 + g k - p k - c) 4294967296
    generalize (4294967296 + g k - p k - c) % 4294967296 = r at *
    generalize (4294967296 + g k - p k - c) / 4294967296 = q at *
    have e1 : g k = r + 4294967296 * q - 4294967296 + p k + c := by omega
    rw [e1]
    have e2 : val h k = val g k - c * 4294967296 ^ k + val p k := by omega
    rw [e2]
    grind
end Go.Proofs.Ytbjllhcjbblojaa
