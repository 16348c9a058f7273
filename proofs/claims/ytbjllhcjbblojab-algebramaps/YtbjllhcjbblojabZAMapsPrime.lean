import Derived.KernelRfl
/-! Numbers: Fermat, Pocklington. -/
namespace Go.Num
def fpw (a m : Nat) : Nat → Nat → Nat
  | 0, _ => 1 % m
  | f + 1, e => (fun h => if e % 2 = 1 then h * h % m * a % m else h * h % m) (fpw a m f (e / 2))
theorem fpw_eq (a m : Nat) : ∀ f e, e < 2 ^ f → fpw a m f e = a ^ e % m
  | 0, e, h => by
    have : e = 0 := by simp at h; omega
    subst this; simp [fpw]
  | f + 1, e, h => by
    have ih := fpw_eq a m f (e / 2) (by rw [Nat.pow_succ] at h; omega)
    unfold fpw
    simp only [ih]
    have e2 : a ^ (e / 2) % m * (a ^ (e / 2) % m) % m = a ^ (e / 2 + e / 2) % m := by rw [← Nat.mul_mod, ← Nat.pow_add]
    split
    · rename_i ho
      rw [e2, ← Nat.mod_mul_mod, Nat.mod_mod, Nat.mod_mul_mod, ← Nat.pow_succ]
      congr 2; omega
    · rename_i ho
      rw [e2]
      congr 2; omega
/-! Fermat, by the products of the residues. -/
def prodL : List Nat → Nat
  | [] => 1
  | a :: t => a * prodL t
theorem prodL_perm {L M : List Nat} (h : L.Perm M) : prodL L = prodL M := by
  induction h with
  | nil => rfl
  | cons x _ ih => simp [prodL, ih]
  | swap x y l => simp [prodL, Nat.mul_left_comm]
  | trans _ _ h1 h2 => exact h1.trans h2
theorem fermat {p a : Nat} (h : IsP p) (ha : ¬ p ∣ a) : a ^ (p - 1) % p = 1 := by
  have hp := h.1
  let L := List.range' 1 (p - 1)
  have hm : ∀ x, x ∈ L ↔ 1 ≤ x ∧ x < p := by
    intro x
    simp only [L, List.mem_range'_1]
    omega
  have hperm : (L.map fun k => a * k % p).Perm L := by
    apply perm_of_sub
    · refine List.pairwise_map.2 (List.Pairwise.imp_of_mem ?_ (List.nodup_range' (s := 1) (n := p - 1)))
      intro j k hj hk hne he
      have hj := (hm j).1 hj
      have hk := (hm k).1 hk
      rcases Nat.lt_or_gt_of_ne hne with hl | hl
      · exact inj_mul h ha hl hk.2 he
      · exact inj_mul h ha hl hj.2 he.symm
    · simp
    · intro x hx
      obtain ⟨k, hk, rfl⟩ := List.mem_map.1 hx
      have hk := (hm k).1 hk
      refine (hm _).2 ⟨?_, Nat.mod_lt _ (by omega)⟩
      apply Classical.byContradiction
      intro h0
      have h0 : a * k % p = 0 := by omega
      rcases h.euclid (Nat.dvd_of_mod_eq_zero h0) with h1 | h1
      · exact ha h1
      · have := Nat.le_of_dvd (by omega) h1; omega
  have h1 := prodL_mul a p L
  rw [prodL_perm hperm] at h1
  have hl : L.length = p - 1 := by simp [L]
  rw [hl] at h1
  have hnd : ¬ p ∣ prodL L := prodL_ndvd h L (fun x hx hd => by
    have := (hm x).1 hx
    have := Nat.le_of_dvd (by omega) hd
    omega)
  have hpos : 1 ≤ a ^ (p - 1) := Nat.pow_pos (by
    rcases Nat.eq_zero_or_pos a with h0 | h0
    · subst h0; exact absurd (Nat.dvd_zero p) ha
    · exact h0)
  have h2 := dvd_of_mod_eq (p := p) (a := a ^ (p - 1) * prodL L) (b := 1 * prodL L) (Nat.mul_le_mul_right _ hpos) (by rw [Nat.one_mul]; exact h1.symm)
  rw [← Nat.sub_mul] at h2
  rcases h.euclid h2 with h3 | h3
  · obtain ⟨c, hc⟩ := h3
    have : a ^ (p - 1) = 1 + p * c := by omega
    rw [this, Nat.add_mul_mod_self_left]
    exact Nat.mod_eq_of_lt hp
  · exact absurd h3 hnd
/-! Powers that are 1. -/
/-! Small ones by trial. -/
def tryD (n : Nat) : Nat → Bool
  | 0 => true
  | f + 1 => (n % (f + 2) != 0) && tryD n f
end Go.Num
