import Derived.Test.YtlbofcgjdbfenabRefAll
import Derived.WalkKit
import Derived.Test.YtlbofcgjdbfenabRMath
import Derived.Test.YtlbofcgjdbfenabSchAll
set_option linter.unusedSimpArgs false
namespace Go.Calm
theorem St.grown {w0 W W' : World} {L : List Blk} {row : Option Nat} (S : St w0 W L) (hg : W.grownBy W' row) (hr : ∀ k, row = some k → w0.heap.size ≤ k ∧ ∀ x ∈ L, x.b ≠ k) : St w0 W' L :=
  ⟨S.below.grown hg S.below.size (fun k hk => (hr k hk).1), S.own, S.nd, fun x hx => by
    rw [hg.block x.b (lt_of_heap (S.has x hx)) (fun e => (hr x.b e.symm).2 x hx rfl)]
    exact S.has x hx⟩
end Go.Calm
namespace Go.Proofs.Ytlbofcgjdbfenab
open Go.RowKit
theorem own_row {w : World} {base : Nat} {e : TypeId} {size : Nat} {v : Value} {n : Nat} {xs : List Value} (h : w.ownsRow base e size v n xs) : ∀ k, v.ownBlock = some k → base ≤ k := by
  intro k hk
  rcases h.2 with ⟨rfl, _⟩ | ⟨g, cap, cur, rfl, hb, _⟩
  · cases hk
  · cases hk; exact hb
theorem own_weak {w : World} {base base' : Nat} {e : TypeId} {size : Nat} {v : Value} {n : Nat} {xs : List Value} (h : w.ownsRow base e size v n xs) (hb : base' ≤ base) : w.ownsRow base' e size v n xs := by
  refine ⟨h.1, ?_⟩
  rcases h.2 with h | ⟨g, cap, cur, h1, h2, h3⟩
  · exact .inl h
  · exact .inr ⟨g, cap, cur, h1, by omega, h3⟩
theorem info3 : (Try.prog.info? 3).map (fun i => (i.zero, i.size, i.bytes)) = some (some (.int .i64 0), 1, 8) := by kernel_rfl
def bit (E : Int) (j : Nat) : Int := E / 2 ^ j % 2
def bitL (E : Int) (k : Nat) : List Int := (List.range k).map (bit E)
theorem bitL_len (E : Int) (k : Nat) : (bitL E k).length = k := by simp [bitL]
theorem bitL_succ (E : Int) (k : Nat) : bitL E (k + 1) = bitL E k ++ [bit E k] := by simp [bitL, List.range_succ]
theorem wd1_key (X : Nat) (q r : Nat) (hr : r < 64) : (X / 2 ^ (64 * q) % 18446744073709551616) / 2 ^ r % 2 = X / 2 ^ (64 * q + r) % 2 := by
  have e2 : (18446744073709551616 : Nat) = 2 ^ r * (2 ^ (63 - r) * 2) := by
    rw [← Nat.mul_assoc, ← Nat.pow_add, show r + (63 - r) = 63 by omega]
  rw [Nat.pow_add, ← Nat.div_div_eq_div_mul]
  generalize X / 2 ^ (64 * q) = y
  rw [e2, Nat.mod_mul_right_div_self, Nat.mod_mul_left_mod]
theorem wd1_at (X : Int) (hX : Ok X) (q r : Nat) (hq : q < 4) (hr : r < 64) : ∃ x : Int, (feC X)[q]? = some (.int .u64 x) ∧ 0 ≤ x ∧ x < 18446744073709551616 ∧ Hid (x / 2 ^ r % 2 = bit X (64 * q + r)) := by
  unfold Ok at hX
  obtain ⟨Y, rfl⟩ := Int.eq_ofNat_of_zero_le hX.1
  have key := wd1_key Y q r hr
  have fin : ∀ x : Nat, x = Y / 2 ^ (64 * q) % 18446744073709551616 → Hid (((x : Nat) : Int) / 2 ^ r % 2 = bit (Y : Int) (64 * q + r)) := by
    intro x hx
    unfold Hid bit
    rw [hx]
    have h := congrArg (fun n : Nat => (n : Int)) key
    simp only [Int.natCast_emod, Int.natCast_ediv, Int.natCast_pow] at h ⊢
    exact h
  have c : q = 0 ∨ q = 1 ∨ q = 2 ∨ q = 3 := by omega
  rcases c with rfl | rfl | rfl | rfl
  · exact ⟨((Y % 18446744073709551616 : Nat) : Int), by rw [Int.natCast_emod]; rfl, by omega, by omega, fin _ (by rw [show 2 ^ (64 * 0) = 1 from rfl]; omega)⟩
  · exact ⟨((Y / 18446744073709551616 % 18446744073709551616 : Nat) : Int), by rw [Int.natCast_emod, Int.natCast_ediv]; rfl, by omega, by omega, fin _ rfl⟩
  · exact ⟨((Y / 340282366920938463463374607431768211456 % 18446744073709551616 : Nat) : Int), by rw [Int.natCast_emod, Int.natCast_ediv]; rfl, by omega, by omega, fin _ rfl⟩
  · exact ⟨((Y / 6277101735386680763835789423207666416102355444464034512896 % 18446744073709551616 : Nat) : Int), by rw [Int.natCast_emod, Int.natCast_ediv]; rfl, by omega, by omega, fin _ rfl⟩
end Go.Proofs.Ytlbofcgjdbfenab

set_option linter.unusedSimpArgs false
namespace Go.Calm
section
variable {P : Program} {ops : Array Oper} {rest : List Oper} {o : Oper} {a : Act} {w0 W : World} {L : List Blk} {Q : Exit → Act → World → Prop}
/-- A cell of a row that was there before the call. -/
theorem wl_loadB (S : St w0 W L) {ty : TypeId} {x : Operand} {g j : Nat} {cs : Array Value} {t : TypeId} {v : Value} (hw : Region.wanted o (yielded ops a.tmps) = true) (ho : o.op = .load ty x) (hx : a.eval x = .pointer (some ⟨g, j, none⟩)) (hg : w0.heap[g]? = some (.cells cs t (0, 0))) (hv : cs[j]? = some v)
    (T : OneT P ty)
    (h : wpList P ops Q rest (a.put o.dst v) W) : wpList P ops Q (o :: rest) a W := by
  obtain ⟨d, hu, hd⟩ := T.one
  refine wpList_wanted hw fun K hK => ?_
  have hW : W.heap[g]? = some (.cells cs t (0, 0)) := (S.below.block _ (lt_of_heap hg)).trans hg
  unfold Oper.wp execOp
  simp only [ho, hx, Instr.loadAt, Instr.sureAddr, Sem.run_bind, Sem.run_pure, Result.andThen_ok, run_loadVar_one W g j t ty cs d v hW hv hu hd]
  exact hK _ _ h
end
end Go.Calm
namespace Go.Proofs.Ytlbofcgjdbfenab
open Go.RowKit
theorem oneInt : Calm.OneT Try.prog 3 := ⟨⟨_, Try.underlying3, rfl⟩, by kernel_rfl⟩
/-- The number of the highest d bits of n. -/
def hvd (bt : Nat → Nat) (n : Nat) : Nat → Nat
  | 0 => 0
  | d + 1 => 2 * hvd bt n d + bt (n - 1 - d)
theorem pm_dbl (A : Int) (n : Nat) : pm A n * pm A n % pr = pm A (2 * n) := by rw [pm_add]; congr 1; omega
theorem pm_dbl1 (A : Int) (n : Nat) : pm A (2 * n) * A % pr = pm A (2 * n + 1) := by rw [Int.mul_comm, pm_succ]
end Go.Proofs.Ytlbofcgjdbfenab

set_option linter.unusedSimpArgs false
namespace Go.Proofs.Ytlbofcgjdbfenab
open Go.RowKit
theorem own_some {w : World} {base : Nat} {e : TypeId} {size : Nat} {v : Value} {n : Nat} {xs : List Value} (h : w.ownsRow base e size v n xs) (hn : 0 < n) : ∃ g cap, v = .slice (some ⟨g, 0, none⟩) n cap := by
  rcases h.2 with ⟨_, h0⟩ | ⟨g, cap, cur, h1, _⟩
  · omega
  · exact ⟨g, cap, h1⟩
end Go.Proofs.Ytlbofcgjdbfenab

set_option linter.unusedSimpArgs false
namespace Go.Proofs.Ytlbofcgjdbfenab
open Go.RowKit
/-- What Power asks of a slice. -/
theorem own_read {w : World} {base : Nat} {e : TypeId} {v : Value} {n : Nat} {xs : List Nat} (h : w.ownsRow base e 1 v n (xs.map fun x : Nat => Value.int .i64 (x : Int))) (hn : 0 < n) : ∃ g cap cur, v = .slice (some ⟨g, 0, none⟩) n cap ∧ w.heap[g]? = some (.cells cur e (0, 0)) ∧ ∀ j, j < n → cur[j]? = some (.int .i64 ((xs.getD j 0 : Nat) : Int)) := by
  have hl : xs.length = n := by have := h.1; simpa using this
  rcases h.2 with ⟨_, h0⟩ | ⟨g, cap, cur, h1, _, h3, _, _, _, h4⟩
  · omega
  · refine ⟨g, cap, cur, h1, h3, fun j hj => ?_⟩
    have h5 := congrArg (fun l : List Value => l[j]?) h4
    simp only [Nat.mul_one, List.getElem?_take, hj, if_true, List.getElem?_map] at h5
    rw [← Array.getElem?_toList, h5]
    simp [List.getD, hl, hj]
theorem bits_num (E : Int) (hE : Ok E) : (bitL E 256).map (Value.int .i64) = ((List.range 256).map fun j => E.toNat / 2 ^ j % 2).map (fun x : Nat => Value.int .i64 (x : Int)) := by
  unfold bitL
  rw [List.map_map, List.map_map]
  apply List.map_congr_left
  intro j _
  simp only [Function.comp]
  unfold bit
  obtain ⟨Y, rfl⟩ := Int.eq_ofNat_of_zero_le hE.1
  simp
theorem hvd_bits (X : Nat) : ∀ d, d ≤ 256 → X < 2 ^ 256 → hvd (fun j => ((List.range 256).map fun j => X / 2 ^ j % 2).getD j 0) 256 d = X / 2 ^ (256 - d)
  | 0, _, hX => by simp only [hvd, Nat.sub_zero]; exact (Nat.div_eq_of_lt hX).symm
  | d + 1, hd, hX => by
    simp only [hvd]
    rw [hvd_bits X d (by omega) hX]
    have e : (List.map (fun j => X / 2 ^ j % 2) (List.range 256)).getD (256 - 1 - d) 0 = X / 2 ^ (256 - 1 - d) % 2 := by
      rw [List.getD_eq_getElem?_getD, List.getElem?_map, List.getElem?_range (by omega)]
      rfl
    rw [e, show 256 - d = (256 - 1 - d) + 1 by omega, show 256 - (d + 1) = 256 - 1 - d by omega, Nat.pow_succ, ← Nat.div_div_eq_div_mul]
    omega
def lInv : List Nat := [1, 1, 0, 1, 0] ++ List.replicate 250 1
def lI : List Nat := [1, 1, 0, 1] ++ List.replicate 249 1
def lRoot : List Nat := [0] ++ List.replicate 251 1
theorem h_inv : hvd (fun j => lInv.getD j 0) 255 255 = eInv.toNat := by kernel_rfl
theorem h_i : hvd (fun j => lI.getD j 0) 253 253 = qN := by kernel_rfl
theorem two_q : pm 2 qN = iNum := by
  have h := pm_nat 2 qN
  rw [← fpw_eq 2 prN 256 qN (of_decide_eq_true (by kernel_rfl))] at h
  exact h.trans (by kernel_rfl)
end Go.Proofs.Ytlbofcgjdbfenab

set_option linter.unusedSimpArgs false
namespace Go.Calm
section
variable {P : Program} {ops : Array Oper} {Q : Exit → Act → World → Prop} {r : List (Nat × Bool)} {i : Nat} {o : Oper} {a : Act} {W : World} {L0 : List Blk}
/-- A call whose answer hangs on the world. -/
theorem whB_callE {f : FuncId} {as' : Array Operand} {ts : Array TypeId} {args : Array Value} {Φ : Ending → World → Prop} (hi : ops[i]? = some o) (hw : Region.wanted o (yielded ops a.tmps) = true) (_ho : o.op = .call { callee := .value (.func f), args := as', argTypes := ts }) (hr : ∀ w, (execOp a.eval o).run P w = .ok (.enter f args) w)
    (hc : Calls P f args W Φ) (h : ∀ e w'', Φ e w'' → ∃ v, e = .returned v ∧ Mem0 L0 w'' ∧ walkH P ops Q (Mem0 L0) r (a.put o.dst v) w'') : walkH P ops Q (Mem0 L0) ((i, false) :: r) a W :=
  wh_only hi hw (by
    unfold Oper.wp
    rw [hr W]
    simp only [Oper.upon]
    exact hc.mono fun e w'' hΦ => by
      obtain ⟨v, rfl, hm, hk⟩ := h e w'' hΦ
      exact ⟨hm, hk⟩)
end
end Go.Calm
namespace Go.Proofs.Ytlbofcgjdbfenab
open Go.RowKit
end Go.Proofs.Ytlbofcgjdbfenab
