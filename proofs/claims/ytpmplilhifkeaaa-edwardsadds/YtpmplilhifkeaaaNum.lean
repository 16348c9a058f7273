import Derived.Test.YtpmplilhifkeaaaKnown
set_option linter.unusedSimpArgs false
namespace Go.Proofs.Ytpmplilhifkeaaa
open Go.RowKit

/-- Eight digits. -/
def nuF (g : Nat → Int) : Array Value := ((List.range 8).map fun j => Value.int .u64 (g j)).toArray
def upd (g : Nat → Int) (k : Nat) (v : Int) : Nat → Int := fun j => if j = k then v else g j
theorem upd_eq (g : Nat → Int) (k : Nat) (v : Int) : upd g k v k = v := by simp [upd]
theorem upd_ne (g : Nat → Int) (k : Nat) (v : Int) {j : Nat} (h : j ≠ k) : upd g k v j = g j := by simp [upd, h]
theorem nuF_size (g : Nat → Int) : (nuF g).size = 8 := by simp [nuF]
theorem nuF_at (g : Nat → Int) (k : Nat) (hk : k < 8) : (nuF g)[k]? = some (.int .u64 (g k)) := by simp [nuF, hk]
theorem nuF_one (g : Nat → Int) : (nuF g).all (·.oneCell') = true := by simp [nuF, Value.oneCell']
theorem nuF_set (g : Nat → Int) (k : Nat) (v : Int) : nuF (upd g k v) = (nuF g).setIfInBounds k (.int .u64 v) := by
  unfold nuF
  apply Array.ext
  · simp
  · intro i h1 h2
    rw [Array.getElem_setIfInBounds (by simpa using h1)]
    simp only [List.getElem_toArray, List.getElem_map, List.getElem_range]
    by_cases h : k = i
    · subst h; simp [upd]
    · rw [if_neg h, upd_ne _ _ _ (fun e => h e.symm)]
theorem nuF_ext (g h : Nat → Int) (e : ∀ j, j < 8 → g j = h j) : nuF g = nuF h := by
  unfold nuF
  congr 1
  apply List.map_congr_left
  intro j hj
  rw [e j (by simpa using hj)]
theorem aggNu : Calm.AggT Try.prog 30 8 := ⟨⟨_, Try.underlying30, rfl⟩, by kernel_rfl⟩
theorem zeroNu : (Try.prog.info? 30).bind (·.zero) = some (.agg (nuF fun _ => 0)) := by kernel_rfl
/-- The number of the first k digits. -/
def val (g : Nat → Int) : Nat → Int
  | 0 => 0
  | k + 1 => val g k + g k * 4294967296 ^ k
theorem val_ext (g h : Nat → Int) : ∀ k, (∀ j, j < k → g j = h j) → val g k = val h k
  | 0, _ => rfl
  | k + 1, e => by simp only [val]; rw [val_ext g h k (fun j hj => e j (by omega)), e k (by omega)]
theorem val_upd (g : Nat → Int) (k : Nat) (v : Int) : val (upd g k v) k = val g k := val_ext _ _ _ fun j hj => upd_ne _ _ _ (by omega)
theorem val8 (g : Nat → Int) : val g 8 = g 0 + g 1 * 4294967296 + g 2 * 18446744073709551616 + g 3 * 79228162514264337593543950336 + g 4 * 340282366920938463463374607431768211456 + g 5 * 1461501637330902918203684832716283019655932542976 + g 6 * 6277101735386680763835789423207666416102355444464034512896 + g 7 * 26959946667150639794667015087019630673637144422540572481103610249216 := by
  simp [val]
def nuG (n : Int) : Nat → Int := fun j => n / 4294967296 ^ j % 4294967296
def nuC (n : Int) : Array Value := nuF (nuG n)
theorem nuG_bd (n : Int) (j : Nat) : 0 ≤ nuG n j ∧ nuG n j < 4294967296 := by unfold nuG; omega
theorem lt8 {P : Nat → Prop} {j : Nat} (hj : j < 8) (h0 : P 0) (h1 : P 1) (h2 : P 2) (h3 : P 3) (h4 : P 4) (h5 : P 5) (h6 : P 6) (h7 : P 7) : P j := by
  have : j = 0 ∨ j = 1 ∨ j = 2 ∨ j = 3 ∨ j = 4 ∨ j = 5 ∨ j = 6 ∨ j = 7 := by omega
  rcases this with rfl | rfl | rfl | rfl | rfl | rfl | rfl | rfl <;> assumption
theorem bpos (k : Nat) : (0 : Int) < 4294967296 ^ k := Int.pow_pos (by omega)
theorem val_bd (g : Nat → Int) : ∀ k, (∀ j, j < k → 0 ≤ g j ∧ g j < 4294967296) → 0 ≤ val g k ∧ val g k < 4294967296 ^ k
  | 0, _ => by simp [val]
  | k + 1, hb => by
    have ih := val_bd g k (fun j hj => hb j (by omega))
    have hk := hb k (by omega)
    have hp := bpos k
    simp only [val, Int.pow_succ]
    have h1 : 0 ≤ g k * 4294967296 ^ k := Int.mul_nonneg hk.1 (by omega)
    have h2 : g k * 4294967296 ^ k ≤ 4294967295 * 4294967296 ^ k := Int.mul_le_mul_of_nonneg_right (by omega) (by omega)
    omega
theorem dig (g : Nat → Int) : ∀ k, (∀ j, j < k → 0 ≤ g j ∧ g j < 4294967296) → ∀ j, j < k → val g k / 4294967296 ^ j % 4294967296 = g j
  | 0, _, j, hj => by omega
  | k + 1, hb, j, hj => by
    have hk := hb k (by omega)
    have hp := bpos j
    simp only [val]
    by_cases h : j = k
    · subst h
      have hv := val_bd g j (fun i hi => hb i (by omega))
      rw [Int.add_mul_ediv_right _ _ (by omega), Int.ediv_eq_zero_of_lt hv.1 hv.2]
      omega
    · have ih := dig g k (fun i hi => hb i (by omega)) j (by omega)
      obtain ⟨d, hd⟩ : ∃ d, k = j + 1 + d := ⟨k - (j + 1), by omega⟩
      have e : g k * 4294967296 ^ k = g k * 4294967296 ^ d * 4294967296 * 4294967296 ^ j := by
        rw [hd, Int.pow_add, Int.pow_add]
        grind
      rw [e, Int.add_mul_ediv_right _ _ (by omega), Int.add_mul_emod_self_right]
      exact ih
theorem nuC_of (g : Nat → Int) (hb : ∀ j, j < 8 → 0 ≤ g j ∧ g j < 4294967296) : nuF g = nuC (val g 8) :=
  nuF_ext _ _ fun j hj => (dig g 8 hb j hj).symm
theorem val_nu (n : Int) (hn : Ok n) : val (nuG n) 8 = n := by
  unfold Ok at hn
  rw [val8]
  simp only [nuG]
  simp
  omega
/-- The digits of p. -/
def pd (k : Nat) : Int := if k = 0 then 4294967277 else if k = 7 then 2147483647 else 4294967295
theorem val_pd : val pd 8 = pr := by kernel_rfl
theorem prime_c (k : Nat) (hk : k < 8) (w : World) : Calls Try.prog 70 #[.int .i64 (k : Int)] w fun e w' => e = .returned (.int .u64 (pd k)) ∧ Below w.heap.size w w' := by
  have h : k = 0 ∨ k = 7 ∨ (k ≠ 0 ∧ k ≠ 7) := by omega
  rcases h with rfl | rfl | ⟨h0, h7⟩
  · go_enter Try.func70, Try.ntmps70
    go_wp2
    go_ret
    exact ⟨rfl, Below.refl _ _⟩
  · go_enter Try.func70, Try.ntmps70
    go_wp2
    go_ret
    exact ⟨rfl, Below.refl _ _⟩
  · have e0 : decide ((k : Int) = 0) = false := decide_eq_false (by omega)
    have e7 : decide ((k : Int) = 7) = false := decide_eq_false (by omega)
    have ep : pd k = 4294967295 := by simp [pd, h0, h7]
    rw [ep]
    go_enter Try.func70, Try.ntmps70
    go_wp2
    go_ret
    exact ⟨rfl, Below.refl _ _⟩
end Go.Proofs.Ytpmplilhifkeaaa
