import Derived.Test.YtlbofcgjdbfenabRoot
set_option linter.unusedSimpArgs false
namespace Go.Proofs.Ytlbofcgjdbfenab
open Go.RowKit

/-- A power modulo m, by halves, each half reckoned once. -/
def fpw (a m : Nat) : Nat → Nat → Nat
  | 0, _ => 1 % m
  | f + 1, e => (fun h => if e % 2 = 1 then h * h % m * a % m else h * h % m) (fpw a m f (e / 2))
theorem fpw_eq (a m : Nat) : ∀ f e, e < 2 ^ f → fpw a m f e = a ^ e % m
  | 0, e, h => by
    have : e = 0 := by simp at h; omega
    subst this; simp [fpw]
  | f + 1, e, h => by
    have ih := fpw_eq a m f (e / 2) (by rw [Nat.pow_succ] at h; omega)
    unfold fpw
    simp only [ih]
    have e2 : a ^ (e / 2) % m * (a ^ (e / 2) % m) % m = a ^ (e / 2 + e / 2) % m := by rw [← Nat.mul_mod, ← Nat.pow_add]
    split
    · rename_i ho
      rw [e2, ← Nat.mod_mul_mod, Nat.mod_mod, Nat.mod_mul_mod, ← Nat.pow_succ]
      congr 2; omega
    · rename_i ho
      rw [e2]
      congr 2; omega
/-- p, as a plain number. -/
def prN : Nat := 57896044618658097711785492504343953926634992332820282019728792003956564819949
theorem pm_nat (a n : Nat) : pm (a : Int) n = ((a ^ n % prN : Nat) : Int) := by
  unfold pm
  rw [Int.natCast_emod, Int.natCast_pow]
  rfl

theorem k_inv : fpw 2 prN 256 eInv.toNat = 28948022309329048855892746252171976963317496166410141009864396001978282409975 := by kernel_rfl
theorem k_root : fpw 4 prN 256 eRoot.toNat = 9840580688353752978403539652494271007723033257961945081372010536561914892376 := by kernel_rfl
theorem inv2 : invF 2 = 28948022309329048855892746252171976963317496166410141009864396001978282409975 := by
  have h := pm_nat 2 eInv.toNat
  rw [← fpw_eq 2 prN 256 eInv.toNat (of_decide_eq_true (by kernel_rfl)), k_inv] at h
  exact h
theorem half : 2 * invF 2 % pr = 1 := by rw [inv2]; unfold pr; omega
theorem uv7_4 : rtUV7 4 1 = 4 := by unfold rtUV7 rtUV3 rtV3 pr; decide +kernel
theorem uv3_4 : rtUV3 4 1 = 4 := by unfold rtUV3 rtV3 pr; decide +kernel
theorem rt4 : rtR 4 1 = 39362322753415011913614158609977084030892133031847780325488042146247659569504 := by
  have h := pm_nat 4 eRoot.toNat
  rw [← fpw_eq 4 prN 256 eRoot.toNat (of_decide_eq_true (by kernel_rfl)), k_root] at h
  unfold rtR
  rw [uv7_4, uv3_4, show pm 4 eRoot.toNat = (9840580688353752978403539652494271007723033257961945081372010536561914892376 : Int) from h]
  unfold pr
  omega
theorem turned4 : rtTurned 4 1 := by
  unfold rtTurned rtGot
  rw [rt4]
  unfold pr
  decide +kernel
theorem root4 : (2 : Int) = absF (iNum * rtR 4 1 % pr) := by
  rw [rt4]
  unfold absF iNum pr
  decide +kernel
theorem ok_small (n : Int) (h0 : 0 ≤ n) (h1 : n < 18446744073709551616) : Ok n := ⟨h0, by omega⟩

section
variable {ops : Array Oper} {rest : List Oper} {o : Oper} {a : Act} {W : World} {al : List (Nat × Tmp)} {R : Act → Prop} {m : Nat}
theorem wn_eqT {X : Int} {x y : Operand} {u : TypeId} (hal : (al.map Prod.fst).contains m = false) (hw : Region.wanted o (yielded ops a.tmps) = true) (ho : o.op = .binOp .eql 24 x y u) (hx : a.eval x = .agg (feC X)) (hy : a.eval y = .agg (feC X))
    (h : Calm.walkN Try.prog ops W al R (m + 1) rest (a.put o.dst (.bool true))) : Calm.walkN Try.prog ops W al R m (o :: rest) a :=
  Calm.wn_val hal hw (fun w => by
    have := Calm.exec_eql arrFe (feL X) (feL X) rfl rfl ho hx hy w
    simpa using this) h
end

end Go.Proofs.Ytlbofcgjdbfenab
