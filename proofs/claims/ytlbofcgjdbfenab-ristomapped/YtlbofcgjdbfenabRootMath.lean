import Derived.Test.YtlbofcgjdbfenabRMath
/-! The document's root, by the quotient: the same as the program's. -/
namespace Go.Proofs.Ytlbofcgjdbfenab
open Go.RowKit
/-- (p + 3) / 8. -/
def e38 : Nat := (prN + 3) / 8
/-- What root(s) tries first, and what it keeps. -/
def rx0 (s : Int) : Int := pm s e38
def rx (s : Int) : Int := if rx0 s * rx0 s % pr = s then rx0 s else rx0 s * iNum % pr
theorem pm_zero (n : Nat) (h : 0 < n) : pm 0 n = 0 := by
  unfold pm
  obtain ⟨m, rfl⟩ : ∃ m, n = m + 1 := ⟨n - 1, by omega⟩
  rw [Int.pow_succ, Int.mul_zero]
  rfl
theorem half_one (Z : Int) (h : Z % pr ≠ 0) : pm Z hN % pr = 1 % pr ∨ pm Z hN % pr = -1 % pr := by
  have h2 : pm Z hN * pm Z hN % pr = 1 % pr := by
    rw [pm_add, show hN + hN = prN - 1 by kernel_rfl, fermatI Z h]
    rfl
  generalize pm Z hN = E at h2
  have h5 := czero h2
  have e6 : E * E - 1 = (E - 1) * (E - -1) := by grind
  rw [e6] at h5
  rcases no_div _ _ h5 with h | h
  · exact .inl (czero' h)
  · exact .inr (czero' h)
theorem pm_sq (Z : Int) (n : Nat) : pm (Z * Z) n = pm Z (2 * n) := by
  unfold pm
  rw [Int.pow_mul, show Z ^ 2 = Z * Z by grind]
theorem ri_sq (R : Int) : R * iNum % pr * (R * iNum % pr) % pr = -(R * R) % pr := by
  rw [eml, emr]
  have e : R * iNum * (R * iNum) = (R * R) * (iNum * iNum) := by grind
  rw [e, cmul rfl i_sq]
  congr 1; grind
/-- Of a square, a root is found. -/
theorem rx_square (Z : Int) : rx (Z * Z % pr) * rx (Z * Z % pr) % pr = Z * Z % pr := by
  unfold rx
  split
  · assumption
  · rename_i hne
    rw [ri_sq]
    by_cases hZ : Z % pr = 0
    · exfalso
      apply hne
      have hs : Z * Z % pr = 0 := by rw [← eml, hZ, Int.zero_mul]; rfl
      rw [hs]
      unfold rx0
      rw [pm_zero e38 (by decide)]
      rfl
    · have h1 : rx0 (Z * Z % pr) * rx0 (Z * Z % pr) % pr = Z * Z * pm Z hN % pr := by
        unfold rx0
        rw [pm_mod, pm_add, pm_sq, show 2 * (e38 + e38) = (hN + 1) + 1 by kernel_rfl, ← pm_succ, ← pm_succ, emr, Int.mul_assoc]
      rcases half_one Z hZ with h | h
      · exfalso
        apply hne
        rw [h1, cmul rfl h, Int.mul_one]
      · rw [← eng, h1, eng]
        have e : -(Z * Z * pm Z hN) = (-(Z * Z)) * pm Z hN := by grind
        rw [e, cmul rfl h]
        congr 1; grind
/-- i times a square (not 0) is no square. -/
theorem i_nonsq (Z x : Int) (hZ : Z % pr ≠ 0) (h : x * x % pr = iNum * (Z * Z) % pr) : False := by
  have h1 : Z * Z % pr ≠ 0 := kU hZ hZ
  have hx : x % pr ≠ 0 := by
    intro h0
    have h5 : x * x % pr = 0 := by rw [← eml, h0, Int.zero_mul]; rfl
    rw [h] at h5
    exact kU i_ne h1 h5
  have h6 : pm (x * x) hN = pm (iNum * (Z * Z)) hN := by rw [← pm_mod, h, pm_mod]
  rw [sq_half x hx] at h6
  unfold pm at h6
  rw [Int.mul_pow, Int.mul_emod] at h6
  have a1 := i_half
  have a2 := sq_half Z hZ
  unfold pm at a1 a2
  rw [a1, a2] at h6
  exact absurd h6 (by decide)
/-- The quotient. -/
def quo (U V : Int) : Int := U * invF V % pr
theorem quo_mul (U V : Int) (hV : V % pr ≠ 0) : V * quo U V % pr = U % pr := by
  unfold quo
  rw [emr]
  have e : V * (U * invF V) = U * (V * invF V) := by grind
  rw [e, cmul rfl (show V * invF V % pr = 1 % pr by rw [inv_ok V hV]; rfl), Int.mul_one]
theorem can_V {V X Y : Int} (hV : V % pr ≠ 0) (h : V * X % pr = V * Y % pr) : X % pr = Y % pr := by
  have h1 := czero h
  rw [show V * X - V * Y = V * (X - Y) by grind] at h1
  rcases no_div _ _ h1 with h | h
  · exact absurd h hV
  · exact czero' h
/-- The program found a root of the quotient: so does the document, and it is the same. -/
theorem same_ok (U V Z : Int) (hV : V % pr ≠ 0) (h : V * (Z * Z) % pr = U % pr) : rx (quo U V) * rx (quo U V) % pr = quo U V ∧ absF (rx (quo U V)) = absF Z := by
  have hq : Z * Z % pr = quo U V := by
    have := can_V hV (h.trans (quo_mul U V hV).symm)
    rw [this]
    unfold quo; rw [emm]
  have h1 := rx_square Z
  rw [hq] at h1
  exact ⟨h1, abs_of_sq _ _ (h1.trans hq.symm)⟩
/-- It found none: no more does the document, and the root of i times the quotient is the same. -/
theorem same_no (U V Z : Int) (hU : U % pr ≠ 0) (hV : V % pr ≠ 0) (h : V * (Z * Z) % pr = iNum * U % pr) : ¬ rx (quo U V) * rx (quo U V) % pr = quo U V ∧ rx (quo U V * iNum % pr) * rx (quo U V * iNum % pr) % pr = quo U V * iNum % pr ∧ absF (rx (quo U V * iNum % pr)) = absF Z := by
  have hq : Z * Z % pr = quo U V * iNum % pr := by
    apply can_V hV
    rw [h]
    have e : V * (quo U V * iNum) = (V * quo U V) * iNum := by grind
    rw [e, cmul (quo_mul U V hV) rfl, Int.mul_comm]
  have h1 := rx_square Z
  rw [hq] at h1
  refine ⟨fun hx => ?_, h1, abs_of_sq _ _ (h1.trans hq.symm)⟩
  have hne : rx (quo U V) % pr ≠ 0 := by
    intro h0
    have h5 : quo U V = 0 := by rw [← hx, ← eml, h0, Int.zero_mul]; rfl
    have h6 := quo_mul U V hV
    rw [h5, Int.mul_zero] at h6
    exact hU h6.symm
  refine i_nonsq (rx (quo U V)) Z hne ?_
  rw [hq, Int.mul_comm iNum]
  refine cmul ?_ rfl
  rw [hx]
  unfold quo; rw [emm]
end Go.Proofs.Ytlbofcgjdbfenab
