import Derived.Test.YtabhblaephmgcaaRef5
import Derived.WalkKit
set_option linter.unusedSimpArgs false
namespace Go.Calm
theorem St.grown {w0 W W' : World} {L : List Blk} {row : Option Nat} (S : St w0 W L) (hg : W.grownBy W' row) (hr : ∀ k, row = some k → w0.heap.size ≤ k ∧ ∀ x ∈ L, x.b ≠ k) : St w0 W' L :=
  ⟨S.below.grown hg S.below.size (fun k hk => (hr k hk).1), S.own, S.nd, fun x hx => by
    rw [hg.block x.b (lt_of_heap (S.has x hx)) (fun e => (hr x.b e.symm).2 x hx rfl)]
    exact S.has x hx⟩
end Go.Calm
namespace Go.Proofs.Ytabhblaephmgcaa
open Go.RowKit
theorem own_row {w : World} {base : Nat} {e : TypeId} {size : Nat} {v : Value} {n : Nat} {xs : List Value} (h : w.ownsRow base e size v n xs) : ∀ k, v.ownBlock = some k → base ≤ k := by
  intro k hk
  rcases h.2 with ⟨rfl, _⟩ | ⟨g, cap, cur, rfl, hb, _⟩
  · cases hk
  · cases hk; exact hb
theorem own_weak {w : World} {base base' : Nat} {e : TypeId} {size : Nat} {v : Value} {n : Nat} {xs : List Value} (h : w.ownsRow base e size v n xs) (hb : base' ≤ base) : w.ownsRow base' e size v n xs := by
  refine ⟨h.1, ?_⟩
  rcases h.2 with h | ⟨g, cap, cur, h1, h2, h3⟩
  · exact .inl h
  · exact .inr ⟨g, cap, cur, h1, by omega, h3⟩
theorem info3 : (Try.prog.info? 3).map (fun i => (i.zero, i.size, i.bytes)) = some (some (.int .i64 0), 1, 8) := by kernel_rfl
def bit (E : Int) (j : Nat) : Int := E / 2 ^ j % 2
def bitL (E : Int) (k : Nat) : List Int := (List.range k).map (bit E)
theorem bitL_len (E : Int) (k : Nat) : (bitL E k).length = k := by simp [bitL]
theorem bitL_succ (E : Int) (k : Nat) : bitL E (k + 1) = bitL E k ++ [bit E k] := by simp [bitL, List.range_succ]
theorem wd1_key (X : Nat) (q r : Nat) (hr : r < 64) : (X / 2 ^ (64 * q) % 18446744073709551616) / 2 ^ r % 2 = X / 2 ^ (64 * q + r) % 2 := by
  have e2 : (18446744073709551616 : Nat) = 2 ^ r * (2 ^ (63 - r) * 2) := by
    rw [← Nat.mul_assoc, ← Nat.pow_add, show r + (63 - r) = 63 by omega]
  rw [Nat.pow_add, ← Nat.div_div_eq_div_mul]
  generalize X / 2 ^ (64 * q) = y
  rw [e2, Nat.mod_mul_right_div_self, Nat.mod_mul_left_mod]
theorem wd1_at (X : Int) (hX : Ok X) (q r : Nat) (hq : q < 4) (hr : r < 64) : ∃ x : Int, (feC X)[q]? = some (.int .u64 x) ∧ 0 ≤ x ∧ x < 18446744073709551616 ∧ Hid (x / 2 ^ r % 2 = bit X (64 * q + r)) := by
  unfold Ok at hX
  obtain ⟨Y, rfl⟩ := Int.eq_ofNat_of_zero_le hX.1
  have key := wd1_key Y q r hr
  have fin : ∀ x : Nat, x = Y / 2 ^ (64 * q) % 18446744073709551616 → Hid (((x : Nat) : Int) / 2 ^ r % 2 = bit (Y : Int) (64 * q + r)) := by
    intro x hx
    unfold Hid bit
    rw [hx]
    have h := congrArg (fun n : Nat => (n : Int)) key
    simp only [Int.natCast_emod, Int.natCast_ediv, Int.natCast_pow] at h ⊢
    exact h
  have c : q = 0 ∨ q = 1 ∨ q = 2 ∨ q = 3 := by omega
  rcases c with rfl | rfl | rfl | rfl
  · exact ⟨((Y % 18446744073709551616 : Nat) : Int), by rw [Int.natCast_emod]; rfl, by omega, by omega, fin _ (by rw [show 2 ^ (64 * 0) = 1 from rfl]; omega)⟩
  · exact ⟨((Y / 18446744073709551616 % 18446744073709551616 : Nat) : Int), by rw [Int.natCast_emod, Int.natCast_ediv]; rfl, by omega, by omega, fin _ rfl⟩
  · exact ⟨((Y / 340282366920938463463374607431768211456 % 18446744073709551616 : Nat) : Int), by rw [Int.natCast_emod, Int.natCast_ediv]; rfl, by omega, by omega, fin _ rfl⟩
  · exact ⟨((Y / 6277101735386680763835789423207666416102355444464034512896 % 18446744073709551616 : Nat) : Int), by rw [Int.natCast_emod, Int.natCast_ediv]; rfl, by omega, by omega, fin _ rfl⟩
set_option maxHeartbeats 1000000 in
theorem Bits_c (E : Int) (hE : Ok E) (w : World) : Calls Try.prog 31 #[.agg (feC E)] w fun e w' => ∃ v, e = .returned v ∧ w'.ownsRow w.heap.size 3 1 v 256 ((bitL E 256).map (Value.int .i64)) ∧ Below w.heap.size w w' := by
  have S := Calm.St.start w
  obtain ⟨i0, hi, hz0, hz1, hz2⟩ := info_parts info3
  go_enter Try.func31, Try.ntmps31
  go_wp2_with (first | (refine Calm.wl_box S rfl rfl rfl ?_; clear S; intro b W S) | (refine Calm.wl_new (ty := 24) S rfl rfl zeroFe ?_; clear S; intro b W S) | (refine Calm.g_load (ty := 24) rfl ?_; refine Calm.wl_load (ty := 24) S rfl rfl rfl (by (repeat (first | exact List.Mem.head _ | apply List.Mem.tail))) aggFe (by simp only [List.size_toArray, List.length_cons, List.length_nil, feC_size]) ?_) | (refine Calm.g_store (ty := 24) rfl ?_; refine Calm.wl_store (ty := 24) S rfl rfl rfl rfl (by (repeat (first | exact Calm.foc_hd | apply Calm.foc_tl))) aggFe rfl (by simp only [List.size_toArray, List.length_cons, List.length_nil, feC_size]) (w4_one _ _ _ _) ?_; clear S; intro W S) | (refine Calm.g_load (ty := 22) rfl ?_; refine Calm.wl_loadE (ty := 22) S rfl rfl rfl (by (repeat (first | exact List.Mem.head _ | apply List.Mem.tail))) (by rfl) one64 ?_) | (refine Calm.g_store (ty := 22) rfl ?_; refine Calm.wl_storeE (ty := 22) S rfl rfl rfl rfl (by rfl) (by (repeat (first | exact Calm.foc_hd | apply Calm.foc_tl))) one64 (by simp) rfl ?_; clear S; intro W S; simp only [Act.eval, Array.getD_eq_getD_getElem?, List.getElem?_toArray, List.getElem?_cons_zero, List.getElem?_cons_succ, Option.getD_some, List.setIfInBounds_toArray, List.set_cons_zero, List.set_cons_succ] at S))
  rename_i K hK
  go_loopw [3, 4] (fun v i Wr => ∃ k : Nat, k ≤ 256 ∧ i = .int .i64 (k : Int) ∧ Wr.ownsRow (b + 1) 3 1 v k ((bitL E k).map (Value.int .i64)) ∧ Calm.St w Wr [⟨b, feC E, 23⟩]) (fun _ i _ => 256 - (intOf i).toNat)
  case atStart => exact ⟨0, by omega, rfl, World.ownsRow_nil _ _ _ _, S⟩
  case round =>
    clear S
    obtain ⟨k, hk, rfl, hown, S⟩ := hrel
    by_cases hlt : k < 256
    · obtain ⟨q, hq⟩ : ∃ q : Nat, q = k / 64 := ⟨_, rfl⟩
      obtain ⟨r, hr⟩ : ∃ r : Nat, r = k % 64 := ⟨_, rfl⟩
      have g1 : IntKind.i64.wrap ((k : Int) / 64) = (q : Int) := by rw [wrap_small _ (by omega) (by omega)]; omega
      have g2 : (k : Int).tmod 64 = (r : Int) := by rw [Int.tmod_eq_emod_of_nonneg (by omega)]; omega
      have g4 : (q : Int) < 4 := by omega
      have g5 : (k : Int) < 256 := by omega
      have hs64 : r ≤ 64 := by omega
      obtain ⟨x, hx, hx0, hx1, HX⟩ := wd1_at E hE q r (by omega) (by omega)
      have Hx := hide hx
      have Hk := hide (show 64 * q + r = k by omega)
      have g6 : (x / 2 ^ r).tmod 2 = x / 2 ^ r % 2 := Int.tmod_eq_emod_of_nonneg (Int.ediv_nonneg hx0 (Int.le_of_lt (Int.pow_pos (by omega))))
      have g7 : IntKind.i64.wrap (x / 2 ^ r % 2) = x / 2 ^ r % 2 := wrap_small _ (by omega) (by omega)
      have HO := hide hown
      have HS := hide S
      clear hx hq hr hown
      go_wp2_with (first | (refine Calm.g_load (ty := 22) rfl ?_; refine Calm.wl_loadE (ty := 22) (b := b) (v := .int .u64 x) S rfl rfl rfl (by repeat (first | exact List.Mem.head _ | apply List.Mem.tail)) Hx.out one64 ?_) | (at_builtin; refine wpList_append_own _ rfl _ _ 42 rfl (b + 1) 3 i0 (.int .i64 0) 1 8 Try.underlying42 hi hz0 hz1 hz2 rfl (by decide) _ _ _ rfl (HO.out.alloc _) ⟨wr.heap.size, 0, none⟩ 1 1 [.int .i64 (x / 2 ^ r % 2)] rfl rfl ?c1 ?c2 ?c3 ?c4 ?c5 ?_))
      case c1 =>
        intro j u hj
        match j, hj with
        | 0, hj => simp at hj; subst hj; simp [Addr.add]
      case c2 => intro u hu; simp at hu; subst hu; rfl
      case c3 => unfold maxLen; omega
      case c4 => omega
      case c5 =>
        have h : b < wr.heap.size := Calm.lt_of_heap (HS.out.has _ List.mem_cons_self)
        simp; omega
      · intro v' w1 hown' hgrow _
        have S1 := Calm.St.grown (HS.out.call (Below.alloc (Below.refl _ _) (Nat.le_refl _) _)) hgrow (fun g hg => by
          have h1 := own_row HO.out g hg
          have h2 : w.heap.size ≤ b := HS.out.own _ List.mem_cons_self
          refine ⟨by omega, fun x hx => ?_⟩
          have := List.mem_singleton.1 hx
          subst this
          show b ≠ g
          omega)
        rw [HX.out, Hk.out] at hown'
        have O1 : w1.ownsRow (b + 1) 3 1 v' (k + 1) ((bitL E (k + 1)).map (Value.int .i64)) := by
          rw [bitL_succ, List.map_append]
          exact hown'
        clear hown' hgrow S
        go_wp2
        go_roundw
        case rel => exact ⟨k + 1, by omega, by go_num, O1, S1⟩
        case measure => simp [intOf]; omega
    · have hk' : k = 256 := by omega
      subst hk'
      have h2 : w.heap.size ≤ b := S.own _ List.mem_cons_self
      have HO := hide hown
      clear hown
      go_wp2
      go_ret
      exact ⟨_, rfl, own_weak HO.out (by omega), S.below⟩
end Go.Proofs.Ytabhblaephmgcaa
