import Derived.Test.YtpmplilhifkeaaaEvAll
import Derived.Test.YtpmplilhifkeaaaEd4b
set_option linter.unusedSimpArgs false
set_option linter.unusedVariables false
namespace Go.Proofs.Ytpmplilhifkeaaa
open Go.RowKit Go.Ev
def iv : Value → Int
  | .int _ n => n
  | _ => 0
/-- The number of four words. -/
def nm (a : Array Value) : Int := iv (a.getD 0 undef) + iv (a.getD 1 undef) * 18446744073709551616 + iv (a.getD 2 undef) * 340282366920938463463374607431768211456 + iv (a.getD 3 undef) * 6277101735386680763835789423207666416102355444464034512896
theorem nm_feC (A : Int) (h : Ok A) : nm (feC A) = A := by
  show A % 18446744073709551616 + A / 18446744073709551616 % 18446744073709551616 * 18446744073709551616 + A / 340282366920938463463374607431768211456 % 18446744073709551616 * 340282366920938463463374607431768211456 + A / 6277101735386680763835789423207666416102355444464034512896 % 18446744073709551616 * 6277101735386680763835789423207666416102355444464034512896 = A
  unfold Ok at h
  omega
theorem nm_mod (x : Int) : nm (feC (x % pr)) = x % pr := nm_feC _ (ok_mod x)
def feD : Cd := ⟨Int, feC, nm, Ok, nm_feC⟩
/-- The number of eight digits. -/
def nn (a : Array Value) : Int := val (fun j => iv (a.getD j undef)) 8
theorem nn_nuC (n : Int) (h : 0 ≤ n ∧ n < pr) : nn (nuC n) = n := by
  have := val_nu n (ok_pr h)
  unfold nn
  rw [← this]
  refine (val_ext _ _ 8 (fun j hj => ?_))
  match j, hj with
  | 0, _ => rw [this]; rfl
  | 1, _ => rw [this]; rfl
  | 2, _ => rw [this]; rfl
  | 3, _ => rw [this]; rfl
  | 4, _ => rw [this]; rfl
  | 5, _ => rw [this]; rfl
  | 6, _ => rw [this]; rfl
  | 7, _ => rw [this]; rfl
def nuD : Cd := ⟨Int, nuC, nn, fun n => 0 ≤ n ∧ n < pr, nn_nuC⟩
def dp (a : Array Value) : P4 := ⟨nm (a.extract 0 (0 + 4)), nm (a.extract 4 (4 + 4)), nm (a.extract 8 (8 + 4)), nm (a.extract 12 (12 + 4))⟩
theorem dp_ptC (p : P4) (h : Ok4 p) : dp (ptC p) = p := by
  obtain ⟨h1, h2, h3, h4⟩ := h
  unfold dp
  rw [pt_X, pt_Y, pt_Z, pt_T, nm_feC _ h1, nm_feC _ h2, nm_feC _ h3, nm_feC _ h4]
def ptD : Cd := ⟨P4, ptC, dp, Ok4, dp_ptC⟩
def Nu3 (p : P3) : Prop := (0 ≤ p.X ∧ p.X < pr) ∧ (0 ≤ p.Y ∧ p.Y < pr) ∧ (0 ≤ p.Z ∧ p.Z < pr)
def dr (a : Array Value) : P3 := ⟨nn (a.extract 0 (0 + 8)), nn (a.extract 8 (8 + 8)), nn (a.extract 16 (16 + 8))⟩
theorem dr_rpC (p : P3) (h : Nu3 p) : dr (rpC p) = p := by
  obtain ⟨h1, h2, h3⟩ := h
  unfold dr
  rw [rp_X, rp_Y, rp_Z, nn_nuC _ h1, nn_nuC _ h2, nn_nuC _ h3]
def rpD : Cd := ⟨P3, rpC, dr, Nu3, dr_rpC⟩
def bv : Value → Bool
  | .bool b => b
  | _ => false
def ds (a : Array Value) : Sd := ⟨nm (a.extract 0 (0 + 4)), bv (a.getD 4 undef)⟩
theorem ds_sdC (s : Sd) (h : Ok s.Y) : ds (sdC s) = s := by
  unfold ds
  rw [sd_Y, nm_feC _ h]
  rfl
def sdD : Cd := ⟨Sd, sdC, ds, fun s => Ok s.Y, ds_sdC⟩
def tA (t : TypeId) : Option Nat := if t = 24 then some 4 else if t = 26 then some 16 else if t = 30 then some 8 else if t = 32 then some 24 else if t = 52 then some 5 else none
theorem tA_ok (t : TypeId) (k : Nat) (h : tA t = some k) : Calm.AggT Try.prog t k := by
  unfold tA at h
  repeat' split at h
  all_goals first | (cases h; done) | (simp only [Option.some.injEq] at h; subst_vars; first | exact aggFe | exact aggPt | exact aggNu | exact aggRp | exact aggSd)
def tO (t : TypeId) : Bool := t = 4
theorem oB : Calm.OneT Try.prog 4 := ⟨⟨_, Try.underlying4, rfl⟩, by kernel_rfl⟩
theorem tO_ok (t : TypeId) (h : tO t = true) : Calm.OneT Try.prog t := by
  unfold tO at h
  simp only [decide_eq_true_eq] at h
  subst h
  exact oB
def tZ (t : TypeId) : Option (Array Value) := if t = 24 then some (feC 0) else if t = 26 then some (ptC ⟨0, 0, 0, 0⟩) else if t = 30 then some (nuC 0) else if t = 32 then some (rpC ⟨0, 0, 0⟩) else none
theorem zeroFeC : (Try.prog.info? 24).bind (·.zero) = some (.agg (feC 0)) := by kernel_rfl
theorem zeroNuC : (Try.prog.info? 30).bind (·.zero) = some (.agg (nuC 0)) := by rw [nuC_0]; exact zeroNu
theorem tZ_ok (t : TypeId) (cs : Array Value) (h : tZ t = some cs) : (Try.prog.info? t).bind (·.zero) = some (.agg cs) := by
  unfold tZ at h
  split at h
  · rename_i e
    injection h with h
    rw [e, ← h]; exact zeroFeC
  · split at h
    · rename_i e
      injection h with h
      rw [e, ← h]; exact zeroPt
    · split at h
      · rename_i e
        injection h with h
        rw [e, ← h]; exact zeroNuC
      · split at h
        · rename_i e
          injection h with h
          rw [e, ← h]; exact zeroRp
        · cases h
def tF (t : TypeId) (f : Nat) : Option Nat := if t = 26 then (if f = 0 then some 0 else if f = 1 then some 4 else if f = 2 then some 8 else if f = 3 then some 12 else none)
  else if t = 32 then (if f = 0 then some 0 else if f = 1 then some 8 else if f = 2 then some 16 else none)
  else if t = 52 then (if f = 0 then some 0 else if f = 1 then some 4 else none) else none
theorem tF_ok (t : TypeId) (f off : Nat) (h : tF t f = some off) (b o : Nat) (w : World) : (Instr.fieldAt t (.pointer (some ⟨b, o, none⟩)) f).run Try.prog w = .ok (.pointer (some ⟨b, o + off, none⟩)) w := by
  unfold tF at h
  repeat' split at h
  all_goals first | (cases h; done) | (simp only [Option.some.injEq] at h; subst_vars; go_simp; done) | skip
end Go.Proofs.Ytpmplilhifkeaaa

set_option linter.unusedSimpArgs false
set_option linter.unusedVariables false
namespace Go.Proofs.Ytpmplilhifkeaaa
open Go.RowKit Go.Ev
/-- Two values are the same: what is answered, what is owed. -/
def eqV (t : TypeId) : Value → Value → Option (Bool × Prop)
  | .bool a, .bool b => if t = 4 then some (a == b, True) else none
  | .agg a, .agg b => if t = 30 then some (decide (nn a = nn b), nuD.is a ∧ nuD.is b)
      else if t = 26 then some (decide (same4 (dp a) (dp b)), ptD.is a ∧ ptD.is b)
      else if t = 24 then some (decide (nm a = nm b), feD.is a ∧ feD.is b) else none
  | _, _ => none
/-- What '==' and '!=' answer. -/
def EqR (t : TypeId) (u v : Value) (r : Bool) : Prop := ∀ (w : World) (x y : Operand), (eqGuard .eql t x y u v).run Try.prog w = .ok () w ∧ (eqGuard .neq t x y u v).run Try.prog w = .ok () w ∧ (binOp .eql t u v).run Try.prog w = .ok (.bool r) w ∧ (binOp .neq t u v).run Try.prog w = .ok (.bool !r) w
theorem guardNu : Try.prog.eqGuardType Try.prog.depth 30 = false := by kernel_rfl
theorem guardPt : Try.prog.eqGuardType Try.prog.depth 26 = false := by kernel_rfl
theorem guardFe : Try.prog.eqGuardType Try.prog.depth 24 = false := by kernel_rfl
theorem eqR_nu {X Y : Int} (hX : Ok X) (hY : Ok Y) : EqR 30 (.agg (nuC X)) (.agg (nuC Y)) (decide (X = Y)) := fun w x y => by
  refine ⟨Calm.run_guard w _ x y _ _ _ guardNu, Calm.run_guard w _ x y _ _ _ guardNu, ?_, ?_⟩
  · have := Calm.run_eql_ints w arrNu (nuL X) (nuL Y) (nuL_len X) (nuL_len Y)
    rwa [nuL_inj hX hY, ← nuC_list, ← nuC_list] at this
  · have := Calm.run_neq_ints w arrNu (nuL X) (nuL Y) (nuL_len X) (nuL_len Y)
    rw [← nuC_list, ← nuC_list] at this
    rw [this, ← nuL_inj hX hY]
theorem eqR_fe {X Y : Int} (hX : Ok X) (hY : Ok Y) : EqR 24 (.agg (feC X)) (.agg (feC Y)) (decide (X = Y)) := fun w x y => by
  refine ⟨Calm.run_guard w _ x y _ _ _ guardFe, Calm.run_guard w _ x y _ _ _ guardFe, ?_, ?_⟩
  · have := Calm.run_eql_ints w arrFe (feL X) (feL Y) rfl rfl
    rwa [feL_inj hX hY] at this
  · have := Calm.run_neq_ints w arrFe (feL X) (feL Y) rfl rfl
    rw [← feL_inj hX hY]
    exact this
theorem eqF_pt {p q : P4} (hp : Ok4 p) (hq : Ok4 q) (w : World) : (Op.eqFields 9999 (ptC p) (ptC q) (Try.prog.fieldsOf 26).toList).run Try.prog w = .ok (decide (same4 p q)) w := by
  obtain ⟨h1, h2, h3, h4⟩ := hp
  obtain ⟨k1, k2, k3, k4⟩ := hq
  unfold Program.fieldsOf
  rw [Try.underlying26]
  dsimp only
  rw [Calm.eqF_arr w 9997 _ _ _ _ (by decide) arrFe (by kernel_rfl) (feL p.X) (feL q.X) rfl rfl rfl rfl]
  rw [Calm.eqF_arr w 9997 _ _ _ _ (by decide) arrFe (by kernel_rfl) (feL p.Y) (feL q.Y) rfl rfl rfl rfl]
  rw [Calm.eqF_arr w 9997 _ _ _ _ (by decide) arrFe (by kernel_rfl) (feL p.Z) (feL q.Z) rfl rfl rfl rfl]
  rw [Calm.eqF_arr w 9997 _ _ _ _ (by decide) arrFe (by kernel_rfl) (feL p.T) (feL q.T) rfl rfl rfl rfl]
  rw [Calm.eqF_nil, feL_inj h1 k1, feL_inj h2 k2, feL_inj h3 k3, feL_inj h4 k4]
  unfold same4
  by_cases e1 : p.X = q.X <;> by_cases e2 : p.Y = q.Y <;> by_cases e3 : p.Z = q.Z <;> by_cases e4 : p.T = q.T <;> simp [e1, e2, e3, e4]
theorem eqR_pt {p q : P4} (hp : Ok4 p) (hq : Ok4 q) : EqR 26 (.agg (ptC p)) (.agg (ptC q)) (decide (same4 p q)) := fun w x y =>
  ⟨Calm.run_guard w _ x y _ _ _ guardPt, Calm.run_guard w _ x y _ _ _ guardPt, Calm.run_eql_of w (by kernel_rfl) (by kernel_rfl) (eqF_pt hp hq w), Calm.run_neq_of w (by kernel_rfl) (by kernel_rfl) (eqF_pt hp hq w)⟩
theorem eqR_bool (a b : Bool) : EqR 4 (.bool a) (.bool b) (a == b) := fun w x y => by
  refine ⟨rfl, rfl, ?_, ?_⟩
  · go_simp
  · go_simp
theorem eqV_ok {t : TypeId} {u v : Value} {r : Bool} {c : Prop} (h : eqV t u v = some (r, c)) (hc : c) : EqR t u v r := by
  unfold eqV at h
  split at h
  · split at h
    · rename_i e
      simp only [Option.some.injEq, Prod.mk.injEq] at h
      rw [e, ← h.1]; exact eqR_bool _ _
    · cases h
  · split at h
    · rename_i e
      simp only [Option.some.injEq, Prod.mk.injEq] at h
      obtain ⟨rfl, rfl⟩ := h
      obtain ⟨⟨X, hX, rfl⟩, Y, hY, rfl⟩ := hc
      rw [e, show nn (nuD.enc X) = X from nn_nuC X hX, show nn (nuD.enc Y) = Y from nn_nuC Y hY]
      exact eqR_nu (ok_pr hX) (ok_pr hY)
    · split at h
      · rename_i e
        simp only [Option.some.injEq, Prod.mk.injEq] at h
        obtain ⟨rfl, rfl⟩ := h
        obtain ⟨⟨X, hX, rfl⟩, Y, hY, rfl⟩ := hc
        rw [e, show dp (ptD.enc X) = X from dp_ptC X hX, show dp (ptD.enc Y) = Y from dp_ptC Y hY]
        exact eqR_pt hX hY
      · split at h
        · rename_i e
          simp only [Option.some.injEq, Prod.mk.injEq] at h
          obtain ⟨rfl, rfl⟩ := h
          obtain ⟨⟨X, hX, rfl⟩, Y, hY, rfl⟩ := hc
          rw [e, show nm (feD.enc X) = X from nm_feC X hX, show nm (feD.enc Y) = Y from nm_feC Y hY]
          exact eqR_fe hX hY
        · cases h
  · cases h
def tU (o : Op) (ρ : Operand → Value) : Option (Value × Prop) := match o with
  | .binOp .eql t x y _ => if opk x && opk y && np (ρ x) && np (ρ y) then (match eqV t (ρ x) (ρ y) with | some (b, c) => some (.bool b, c) | none => none) else none
  | .binOp .neq t x y _ => if opk x && opk y && np (ρ x) && np (ρ y) then (match eqV t (ρ x) (ρ y) with | some (b, c) => some (.bool !b, c) | none => none) else none
  | _ => none
theorem tU_ok (o : Oper) (ρ ρ' : Operand → Value) (v : Value) (c : Prop) (h : tU o.op ρ = some (v, c)) (hc : c) (hE : ∀ x, opk x = true → np (ρ x) = true → ρ' x = ρ x) (w : World) : (execOp ρ' o).run Try.prog w = .ok (.value v) w := by
  obtain ⟨dst, op, ty, pos, after, guard⟩ := o
  unfold tU at h
  split at h
  · rename_i t x y u e
    simp only at e
    subst e
    split at h
    · rename_i hk
      simp only [Bool.and_eq_true] at hk
      split at h
      · rename_i b c' hq
        simp only [Option.some.injEq, Prod.mk.injEq] at h
        obtain ⟨rfl, rfl⟩ := h
        obtain ⟨g1, g2, g3, g4⟩ := eqV_ok hq hc w x y
        unfold execOp
        simp only [hE x hk.1.1.1 hk.1.2, hE y hk.1.1.2 hk.2, Sem.run_bind, g1, g3, Result.andThen_ok, Sem.run_pure]
      · cases h
    · cases h
  · rename_i t x y u e
    simp only at e
    subst e
    split at h
    · rename_i hk
      simp only [Bool.and_eq_true] at hk
      split at h
      · rename_i b c' hq
        simp only [Option.some.injEq, Prod.mk.injEq] at h
        obtain ⟨rfl, rfl⟩ := h
        obtain ⟨g1, g2, g3, g4⟩ := eqV_ok hq hc w x y
        unfold execOp
        simp only [hE x hk.1.1.1 hk.1.2, hE y hk.1.1.2 hk.2, Sem.run_bind, g2, g4, Result.andThen_ok, Sem.run_pure]
      · cases h
    · cases h
  · cases h
def yty : Ty Try.prog := ⟨tA, tA_ok, tO, tO_ok, tF, tF_ok, tZ, tZ_ok, tU, tU_ok⟩
theorem mixed : Try.prog.follows .mixedOrders = true := by kernel_rfl
end Go.Proofs.Ytpmplilhifkeaaa

set_option linter.unusedSimpArgs false
set_option linter.unusedVariables false
namespace Go.Proofs.Ytpmplilhifkeaaa
open Go.RowKit Go.Ev
/-- The program's root, as a function. -/
def rootV (U V : Int) : Int := if rtGot U V % pr = -U % pr % pr then absF (iNum * rtR U V % pr) else if rtGot U V % pr = iNum * (-U % pr) % pr % pr then absF (iNum * rtR U V % pr) else absF (rtR U V)
def rootB (U V : Int) : Bool := if rtGot U V % pr = -U % pr % pr then true else decide (rtGot U V % pr = U % pr)
theorem root_way (U V : Int) : rtWay U V (rootV U V) (rootB U V) := by
  unfold rtWay rootV rootB rtTurned rtLast
  by_cases h1 : rtGot U V % pr = -U % pr % pr
  · exact .inl ⟨h1, if_pos h1, if_pos h1⟩
  · by_cases h2 : rtGot U V % pr = iNum * (-U % pr) % pr % pr
    · exact .inr (.inl ⟨h1, h2, if_neg h1, (if_neg h1).trans (if_pos h2)⟩)
    · exact .inr (.inr ⟨h1, h2, if_neg h1, (if_neg h1).trans (if_neg h2)⟩)
/-- The document's. -/
def quoV (u v : Int) : Int := if u = 0 then 0 else if v = 0 then 0 else if rx (quo u v) * rx (quo u v) % pr = quo u v then absR (rx (quo u v)) else absR (rx (quo u v * iNum % pr))
def quoB (u v : Int) : Bool := if u = 0 then true else if v = 0 then false else decide (rx (quo u v) * rx (quo u v) % pr = quo u v)
theorem quo_way (u v : Int) : rootWay u v (quoV u v) (quoB u v) := by
  unfold rootWay quoV quoB
  by_cases h1 : u = 0
  · exact .inl ⟨h1, if_pos h1, if_pos h1⟩
  · by_cases h2 : v = 0
    · exact .inr (.inl ⟨h1, h2, (if_neg h1).trans (if_pos h2), (if_neg h1).trans (if_pos h2)⟩)
    · by_cases h3 : rx (quo u v) * rx (quo u v) % pr = quo u v
      · exact .inr (.inr (.inl ⟨h1, h2, h3, ((if_neg h1).trans (if_neg h2)).trans (if_pos h3), ((if_neg h1).trans (if_neg h2)).trans (decide_eq_true h3)⟩))
      · exact .inr (.inr (.inr ⟨h1, h2, h3, ((if_neg h1).trans (if_neg h2)).trans (if_neg h3), ((if_neg h1).trans (if_neg h2)).trans (decide_eq_false h3)⟩))
def eMul : Entry Try.prog := ent2 Try.func33 (by kernel_rfl) (by kernel_rfl) feD feD (fun A B : Int => .agg (feC (A * B % pr))) (fun A B hA hB w => Mul_c A B hA hB w)
def eAdd : Entry Try.prog := ent2 Try.func37 (by kernel_rfl) (by kernel_rfl) feD feD (fun A B : Int => .agg (feC ((A + B) % pr))) (fun A B hA hB w => Add_c A B hA hB w)
def eSub : Entry Try.prog := ent2 Try.func36 (by kernel_rfl) (by kernel_rfl) feD feD (fun A B : Int => .agg (feC ((A - B) % pr))) (fun A B hA hB w => Sub2_c A B hA hB w)
def eNeg : Entry Try.prog := ent1 Try.func39 (by kernel_rfl) (by kernel_rfl) feD (fun A : Int => .agg (feC (-A % pr))) (fun A hA w => Neg_c A hA w)
def eInvE : Entry Try.prog := ent1 Try.func54 (by kernel_rfl) (by kernel_rfl) feD (fun A : Int => .agg (feC (invF A))) (fun A hA w => Inv_c A hA w)
def eSame : Entry Try.prog := ent2 Try.func51 (by kernel_rfl) (by kernel_rfl) feD feD (fun A B : Int => .bool (decide (A % pr = B % pr))) (fun A B hA hB w => Same_c A B hA hB w)
def eOdd : Entry Try.prog := ent1 Try.func40 (by kernel_rfl) (by kernel_rfl) feD (fun A : Int => .bool (decide (A % pr % 2 = 1))) (fun A hA w => Odd_c A hA w)
def w64 (n : Int) : Prop := 0 ≤ n ∧ n < 18446744073709551616
def eOf : Entry Try.prog := entN Try.func34 (by kernel_rfl) (by kernel_rfl) (fun n => .agg (feC n)) w64 (k := .u64) (fun n h w => Of_c n h.1 h.2 w)
def eRoot1 : Entry Try.prog := ent2 Try.func35 (by kernel_rfl) (by kernel_rfl) feD feD (fun U V : Int => .tuple #[.agg (feC (rootV U V)), .bool (rootB U V)]) (fun U V hU hV w => Root_c U V hU hV _ _ (root_way U V) w)
def rMul : Entry Try.prog := ent2 Try.func42 (by kernel_rfl) (by kernel_rfl) nuD nuD (fun A B : Int => .agg (nuC (A * B % pr))) (fun A B hA hB w => RMul_c A B (ok_pr hA) (ok_pr hB) w)
def rAdd : Entry Try.prog := ent2 Try.func45 (by kernel_rfl) (by kernel_rfl) nuD nuD (fun A B : Int => .agg (nuC ((A + B) % pr))) (fun A B hA hB w => RAdd_c A B (ok_pr hA) (ok_pr hB) w)
theorem RSub2_c (A B : Int) (hA : 0 ≤ A ∧ A < pr) (hB : 0 ≤ B ∧ B < pr) (w : World) : Calls Try.prog 43 #[.agg (nuC A), .agg (nuC B)] w fun e w' => e = .returned (.agg (nuC ((A - B) % pr))) ∧ Below w.heap.size w w' := by
  have := RSub_c A B (ok_pr hA) hB w
  rwa [ear, ← Int.sub_eq_add_neg] at this
def rSub : Entry Try.prog := ent2 Try.func43 (by kernel_rfl) (by kernel_rfl) nuD nuD (fun A B : Int => .agg (nuC ((A - B) % pr))) (fun A B hA hB w => RSub2_c A B hA hB w)
def rNeg : Entry Try.prog := ent1 Try.func48 (by kernel_rfl) (by kernel_rfl) nuD (fun A : Int => .agg (nuC (-A % pr))) (fun A hA w => RNeg_c A hA w)
def rInv : Entry Try.prog := ent1 Try.func53 (by kernel_rfl) (by kernel_rfl) nuD (fun A : Int => .agg (nuC (invF A))) (fun A hA w => RInv_c A (ok_pr hA) w)
def rZero : Entry Try.prog := ent1 Try.func21 (by kernel_rfl) (by kernel_rfl) nuD (fun A : Int => .bool (decide (A = 0))) (fun A hA w => RZero_c A (ok_pr hA) w)
def rOf : Entry Try.prog := entN Try.func44 (by kernel_rfl) (by kernel_rfl) (fun n => .agg (nuC n)) w64 (k := .u64) (fun n h w => ROf_c n h.1 h.2 w)
def rWords : Entry Try.prog := ent1 Try.func49 (by kernel_rfl) (by kernel_rfl) feD (fun A : Int => .agg (nuC (A % pr))) (fun A hA w => Words_c A hA w)
def rToWords : Entry Try.prog := ent1 Try.func23 (by kernel_rfl) (by kernel_rfl) nuD (fun A : Int => .agg (feC A)) (fun A hA w => ToWords_c A w)
def rRoot : Entry Try.prog := ent2 Try.func47 (by kernel_rfl) (by kernel_rfl) nuD nuD (fun U V : Int => .tuple #[.agg (nuC (quoV U V)), .bool (quoB U V)]) (fun U V hU hV w => RRoot_c U V _ _ hU hV (quo_way U V) w)
def pD : Entry Try.prog := ent0 Try.func38 (by kernel_rfl) (by kernel_rfl) (.agg (feC dN)) (fun w => EdD_c w)
def pOf : Entry Try.prog := ent2 Try.func41 (by kernel_rfl) (by kernel_rfl) feD feD (fun A B : Int => .agg (ptC (ofP A B))) (fun A B hA hB w => EdOf_c A B hA hB w)
def pIdentity : Entry Try.prog := ent0 Try.func14 (by kernel_rfl) (by kernel_rfl) (.agg (ptC (ofP 0 1))) (fun w => EdIdentity_c w)
def pBase : Entry Try.prog := ent0 Try.func32 (by kernel_rfl) (by kernel_rfl) (.agg (ptC (ofP bxN byN))) (fun w => EdBase_c w)
def pTwice : Entry Try.prog := ent1 Try.func55 (by kernel_rfl) (by kernel_rfl) ptD (fun p => .agg (ptC (dblP p))) (fun p hp w => EdTwice_c p hp w)
def pNeg : Entry Try.prog := ent1 Try.func27 (by kernel_rfl) (by kernel_rfl) ptD (fun p => .agg (ptC (negP p))) (fun p hp w => EdNeg_c p hp w)
def pAdd : Entry Try.prog := ent2 Try.func25 (by kernel_rfl) (by kernel_rfl) ptD ptD (fun p q => .agg (ptC (addP p q))) (fun p q hp hq w => EdAdd_c p q hp hq w)
def pNought : Entry Try.prog := ent1 Try.func52 (by kernel_rfl) (by kernel_rfl) feD (fun A : Int => .bool (decide (A % pr = 0 % pr))) (fun A hA w => EdNought_c A hA w)
def pSame : Entry Try.prog := ent2 Try.func18 (by kernel_rfl) (by kernel_rfl) ptD ptD (fun p q => .bool (decide (sameQ p q))) (fun p q hp hq w => EdSame_c p q hp hq w)
def tab1 : List (Entry Try.prog) := [eMul, eAdd, eSub, eNeg, eInvE, eSame, eOdd, eOf, eRoot1, rMul, rAdd, rSub, rNeg, rInv, rZero, rOf, rWords, rToWords, rRoot, pD, pOf, pIdentity, pBase, pTwice, pNeg, pAdd, pNought, pSame]
end Go.Proofs.Ytpmplilhifkeaaa

set_option linter.unusedSimpArgs false
set_option linter.unusedVariables false
namespace Go.Proofs.Ytpmplilhifkeaaa
open Go.RowKit Go.Ev
theorem is_fm (x : Int) : feD.is (feC (x % pr)) := feD.is_enc (ok_mod x)
theorem is_nm (x : Int) : nuD.is (nuC (x % pr)) := nuD.is_enc (mod_bd x)
theorem one_fe (x : Int) : (feC x).all (fun v => v.oneCell') = true := w4_one _ _ _ _
theorem one_nu (x : Int) : (nuC x).all (fun v => v.oneCell') = true := nuF_one _
theorem w64_0 : w64 0 := ⟨by decide, by decide⟩
theorem w64_1 : w64 1 := ⟨by decide, by decide⟩
theorem ok_absF (x : Int) : Ok (absF x) := by unfold absF; split <;> exact ok_mod _
theorem ok_rootV (U V : Int) : Ok (rootV U V) := by unfold rootV; split <;> (try split) <;> exact ok_absF _
theorem bd_inv (A : Int) : 0 ≤ invF A ∧ invF A < pr := by unfold invF pm; exact mod_bd _
theorem bd_absR (x : Int) (h : 0 ≤ x ∧ x < pr) : 0 ≤ absR x ∧ absR x < pr := by 
  unfold absR
  split
  · exact mod_bd _
  · exact h
theorem bd_rx (s : Int) : 0 ≤ rx s ∧ rx s < pr := by unfold rx rx0 pm; split <;> exact mod_bd _
theorem bd_quoV (u v : Int) : 0 ≤ quoV u v ∧ quoV u v < pr := by
  unfold quoV
  repeat' split
  · exact ⟨by decide, by decide⟩
  · exact ⟨by decide, by decide⟩
  · exact bd_absR _ (bd_rx _)
  · exact bd_absR _ (bd_rx _)
theorem ok4_dbl (p : P4) : Ok4 (dblP p) := ok4_quot _ _ _ _
theorem ok4_add (p q : P4) : Ok4 (addP p q) := by 
  unfold addP
  split
  · exact ok4_dbl p
  · exact ok4_quot _ _ _ _
theorem ok4_neg (p : P4) (h : Ok4 p) : Ok4 (negP p) := ⟨ok_mod _, h.2.1, h.2.2.1, ok_mod _⟩
theorem ok4_of (A B : Int) (hA : Ok A) (hB : Ok B) : Ok4 (ofP A B) := ⟨hA, hB, ok_1, ok_mod _⟩
theorem ok4_id : Ok4 (ofP 0 1) := ok4_of 0 1 ok_0 ok_1
theorem ok4_base : Ok4 (ofP bxN byN) := ok4_of _ _ ok_bx ok_by
theorem toW {x : Int} (h : 0 ≤ x ∧ x < pr) : Ok (nn (nuC x)) := by rw [nn_nuC x h]; exact ok_pr h
theorem ok4_ofD {A B : Int} (hA : Ok A) (hB : Ok B) : Ok4 (ofP (nm (feC A)) (nm (feC B))) := by rw [nm_feC A hA, nm_feC B hB]; exact ok4_of A B hA hB
theorem ok4_negD {p : P4} (h : Ok4 p) : Ok4 (negP (dp (ptC p))) := by rw [dp_ptC p h]; exact ok4_neg p h
theorem bd_0 : (0 : Int) ≤ 0 ∧ (0 : Int) < pr := ⟨by decide, by decide⟩
theorem bd_1 : (0 : Int) ≤ 1 ∧ (1 : Int) < pr := ⟨by decide, by decide⟩
theorem nn_mod (x : Int) : nn (nuC (x % pr)) = x % pr := nn_nuC _ (mod_bd x)
theorem nn_inv (x : Int) : nn (nuC (invF x)) = invF x := nn_nuC _ (bd_inv x)
theorem nm_inv (x : Int) : nm (feC (invF x)) = invF x := nm_feC _ (ok_pm _ _)
theorem nm_d : nm (feC dN) = dN := nm_feC _ ok_dN
theorem bd_d : 0 ≤ dN ∧ dN < pr := ⟨by decide, by decide⟩
theorem nn_d : nn (nuC dN) = dN := nn_nuC _ bd_d
theorem nm_1 : nm (feC 1) = 1 := nm_feC _ ok_1
theorem nn_1 : nn (nuC 1) = 1 := nn_nuC _ bd_1
theorem nm_root (U V : Int) : nm (feC (rootV U V)) = rootV U V := nm_feC _ (ok_rootV U V)
theorem nn_quo (U V : Int) : nn (nuC (quoV U V)) = quoV U V := nn_nuC _ (bd_quoV U V)
def on_h (i : Nat) : Hn := if i = 1 then ⟨17, [], [], []⟩ else if i = 3 then ⟨12, [], [], []⟩ else if i = 4 then ⟨14, [], [], []⟩ else ⟨0, [], [], []⟩
theorem on_0 (p : P4) : evF (yty.en tab1) on_h Try.f16 [.agg (ptC p)] [some true] = some (.bool false, (((((((True ∧ True) ∧ True) ∧ True) ∧ (feD.is (feC p.Z) ∧ (decide (nm (feC p.Z) % pr = 0 % pr)) = true)) ∧ True) ∧ True) ∧ True)) := by kernel_rfl
theorem on_1 (p : P4) : evF (yty.en tab1) on_h Try.f16 [.agg (ptC p)] [some false, some true, none] = some (.bool (decide (nm (feC ((nm (feC (nm (feC p.Y) * nm (feC p.Y) % pr)) - nm (feC (nm (feC p.X) * nm (feC p.X) % pr))) % pr)) % pr = nm (feC ((nm (feC (nm (feC p.Z) * nm (feC p.Z) % pr)) + nm (feC (nm (feC dN) * nm (feC (nm (feC p.T) * nm (feC p.T) % pr)) % pr))) % pr)) % pr)), ((((((((((((((((((((((((((((((((((((((((((((((((True ∧ True) ∧ True) ∧ True) ∧ (feD.is (feC p.Z) ∧ (decide (nm (feC p.Z) % pr = 0 % pr)) = false)) ∧ True) ∧ True) ∧ True) ∧ True) ∧ True) ∧ (feD.is (feC p.X) ∧ feD.is (feC p.Y))) ∧ True) ∧ True) ∧ True) ∧ True) ∧ (feD.is (feC p.Z) ∧ feD.is (feC p.T))) ∧ ((feD.is (feC (nm (feC p.X) * nm (feC p.Y) % pr)) ∧ feD.is (feC (nm (feC p.Z) * nm (feC p.T) % pr))) ∧ (decide (nm (feC (nm (feC p.X) * nm (feC p.Y) % pr)) % pr = nm (feC (nm (feC p.Z) * nm (feC p.T) % pr)) % pr)) = true)) ∧ True) ∧ True) ∧ True) ∧ True) ∧ True) ∧ True) ∧ (feD.is (feC p.Y) ∧ feD.is (feC p.Y))) ∧ True) ∧ True) ∧ True) ∧ True) ∧ (feD.is (feC p.X) ∧ feD.is (feC p.X))) ∧ (feD.is (feC (nm (feC p.Y) * nm (feC p.Y) % pr)) ∧ feD.is (feC (nm (feC p.X) * nm (feC p.X) % pr)))) ∧ ((feC ((nm (feC (nm (feC p.Y) * nm (feC p.Y) % pr)) - nm (feC (nm (feC p.X) * nm (feC p.X) % pr))) % pr)).all (fun v => v.oneCell') = true)) ∧ True) ∧ True) ∧ True) ∧ True) ∧ (feD.is (feC p.Z) ∧ feD.is (feC p.Z))) ∧ True) ∧ True) ∧ True) ∧ True) ∧ True) ∧ (feD.is (feC p.T) ∧ feD.is (feC p.T))) ∧ (feD.is (feC dN) ∧ feD.is (feC (nm (feC p.T) * nm (feC p.T) % pr)))) ∧ (feD.is (feC (nm (feC p.Z) * nm (feC p.Z) % pr)) ∧ feD.is (feC (nm (feC dN) * nm (feC (nm (feC p.T) * nm (feC p.T) % pr)) % pr)))) ∧ ((feC ((nm (feC (nm (feC p.Z) * nm (feC p.Z) % pr)) + nm (feC (nm (feC dN) * nm (feC (nm (feC p.T) * nm (feC p.T) % pr)) % pr))) % pr)).all (fun v => v.oneCell') = true)) ∧ True) ∧ True) ∧ (feD.is (feC ((nm (feC (nm (feC p.Y) * nm (feC p.Y) % pr)) - nm (feC (nm (feC p.X) * nm (feC p.X) % pr))) % pr)) ∧ feD.is (feC ((nm (feC (nm (feC p.Z) * nm (feC p.Z) % pr)) + nm (feC (nm (feC dN) * nm (feC (nm (feC p.T) * nm (feC p.T) % pr)) % pr))) % pr)))) ∧ True)) := by kernel_rfl
theorem on_2 (p : P4) : evF (yty.en tab1) on_h Try.f16 [.agg (ptC p)] [some false, some false] = some (.bool false, (((((((((((((((((((True ∧ True) ∧ True) ∧ True) ∧ (feD.is (feC p.Z) ∧ (decide (nm (feC p.Z) % pr = 0 % pr)) = false)) ∧ True) ∧ True) ∧ True) ∧ True) ∧ True) ∧ (feD.is (feC p.X) ∧ feD.is (feC p.Y))) ∧ True) ∧ True) ∧ True) ∧ True) ∧ (feD.is (feC p.Z) ∧ feD.is (feC p.T))) ∧ ((feD.is (feC (nm (feC p.X) * nm (feC p.Y) % pr)) ∧ feD.is (feC (nm (feC p.Z) * nm (feC p.T) % pr))) ∧ (decide (nm (feC (nm (feC p.X) * nm (feC p.Y) % pr)) % pr = nm (feC (nm (feC p.Z) * nm (feC p.T) % pr)) % pr)) = false)) ∧ True) ∧ True) ∧ True)) := by kernel_rfl
def on_F (p : P4) : Value := cond (decide (nm (feC p.Z) % pr = 0 % pr)) (.bool false) (cond (decide (nm (feC (nm (feC p.X) * nm (feC p.Y) % pr)) % pr = nm (feC (nm (feC p.Z) * nm (feC p.T) % pr)) % pr)) (.bool (decide (nm (feC ((nm (feC (nm (feC p.Y) * nm (feC p.Y) % pr)) - nm (feC (nm (feC p.X) * nm (feC p.X) % pr))) % pr)) % pr = nm (feC ((nm (feC (nm (feC p.Z) * nm (feC p.Z) % pr)) + nm (feC (nm (feC dN) * nm (feC (nm (feC p.T) * nm (feC p.T) % pr)) % pr))) % pr)) % pr))) (.bool false))
set_option maxHeartbeats 4000000 in
theorem on_p (p : P4) (hp : Ok4 p) : Pure Try.prog 16 #[.agg (ptC p)] (on_F p) := by
  have ⟨hX, hY, hZ, hT⟩ := hp
  unfold on_F
  cases h0 : (decide (nm (feC p.Z) % pr = 0 % pr))
  · skip
    cases h1 : (decide (nm (feC (nm (feC p.X) * nm (feC p.Y) % pr)) % pr = nm (feC (nm (feC p.Z) * nm (feC p.T) % pr)) % pr))
    · skip
      exact pure_of mixed Try.func16 _ (on_2 p) rfl ⟨⟨⟨⟨⟨⟨⟨⟨⟨⟨⟨⟨⟨⟨⟨⟨⟨⟨⟨trivial, trivial⟩, trivial⟩, trivial⟩, ⟨(feD.is_enc (hp.2.2.1)), h0⟩⟩, trivial⟩, trivial⟩, trivial⟩, trivial⟩, trivial⟩, ⟨(feD.is_enc (hp.1)), (feD.is_enc (hp.2.1))⟩⟩, trivial⟩, trivial⟩, trivial⟩, trivial⟩, ⟨(feD.is_enc (hp.2.2.1)), (feD.is_enc (hp.2.2.2))⟩⟩, ⟨⟨(feD.is_enc (ok_mod _)), (feD.is_enc (ok_mod _))⟩, h1⟩⟩, trivial⟩, trivial⟩, trivial⟩
    · skip
      exact pure_of mixed Try.func16 _ (on_1 p) rfl ⟨⟨⟨⟨⟨⟨⟨⟨⟨⟨⟨⟨⟨⟨⟨⟨⟨⟨⟨⟨⟨⟨⟨⟨⟨⟨⟨⟨⟨⟨⟨⟨⟨⟨⟨⟨⟨⟨⟨⟨⟨⟨⟨⟨⟨⟨⟨⟨trivial, trivial⟩, trivial⟩, trivial⟩, ⟨(feD.is_enc (hp.2.2.1)), h0⟩⟩, trivial⟩, trivial⟩, trivial⟩, trivial⟩, trivial⟩, ⟨(feD.is_enc (hp.1)), (feD.is_enc (hp.2.1))⟩⟩, trivial⟩, trivial⟩, trivial⟩, trivial⟩, ⟨(feD.is_enc (hp.2.2.1)), (feD.is_enc (hp.2.2.2))⟩⟩, ⟨⟨(feD.is_enc (ok_mod _)), (feD.is_enc (ok_mod _))⟩, h1⟩⟩, trivial⟩, trivial⟩, trivial⟩, trivial⟩, trivial⟩, trivial⟩, ⟨(feD.is_enc (hp.2.1)), (feD.is_enc (hp.2.1))⟩⟩, trivial⟩, trivial⟩, trivial⟩, trivial⟩, ⟨(feD.is_enc (hp.1)), (feD.is_enc (hp.1))⟩⟩, ⟨(feD.is_enc (ok_mod _)), (feD.is_enc (ok_mod _))⟩⟩, one_fe _⟩, trivial⟩, trivial⟩, trivial⟩, trivial⟩, ⟨(feD.is_enc (hp.2.2.1)), (feD.is_enc (hp.2.2.1))⟩⟩, trivial⟩, trivial⟩, trivial⟩, trivial⟩, trivial⟩, ⟨(feD.is_enc (hp.2.2.2)), (feD.is_enc (hp.2.2.2))⟩⟩, ⟨(feD.is_enc (ok_dN)), (feD.is_enc (ok_mod _))⟩⟩, ⟨(feD.is_enc (ok_mod _)), (feD.is_enc (ok_mod _))⟩⟩, one_fe _⟩, trivial⟩, trivial⟩, ⟨(feD.is_enc (ok_mod _)), (feD.is_enc (ok_mod _))⟩⟩, trivial⟩
  · skip
    exact pure_of mixed Try.func16 _ (on_0 p) rfl ⟨⟨⟨⟨⟨⟨⟨trivial, trivial⟩, trivial⟩, trivial⟩, ⟨(feD.is_enc (hp.2.2.1)), h0⟩⟩, trivial⟩, trivial⟩, trivial⟩
def on_S (p : P4) : Value := cond (decide (p.Z % pr = 0 % pr)) (.bool false) (cond (decide ((p.X * p.Y % pr) % pr = (p.Z * p.T % pr) % pr)) (.bool (decide ((((p.Y * p.Y % pr) - (p.X * p.X % pr)) % pr) % pr = (((p.Z * p.Z % pr) + (dN * (p.T * p.T % pr) % pr)) % pr) % pr))) (.bool false))
theorem on_e (p : P4) (hp : Ok4 p) : on_F p = on_S p := by
  have ⟨hX, hY, hZ, hT⟩ := hp
  unfold on_F on_S
  simp only [nm_mod, nn_mod, nm_inv, nn_inv, nm_d, nn_d, nm_1, nn_1, nm_root, nn_quo, nm_feC _ hX, nm_feC _ hY, nm_feC _ hZ, nm_feC _ hT]
def af_h (i : Nat) : Hn := if i = 4 then ⟨8, [], [], []⟩ else ⟨0, [], [], []⟩
theorem af_0 (p : P4) : evF (yty.en tab1) af_h Try.f20 [.agg (ptC p)] [some true] = some (.tuple #[.agg (feC 0), .agg (feC 0), .bool false], (((((((((True ∧ True) ∧ True) ∧ True) ∧ (feD.is (feC p.Z) ∧ (decide (nm (feC p.Z) % pr = 0 % pr)) = true)) ∧ True) ∧ True) ∧ ((feC 0).all (fun v => v.oneCell') = true)) ∧ ((feC 0).all (fun v => v.oneCell') = true)) ∧ True)) := by kernel_rfl
theorem af_1 (p : P4) : evF (yty.en tab1) af_h Try.f20 [.agg (ptC p)] [some false] = some (.tuple #[.agg (feC (nm (feC p.X) * nm (feC (invF (nm (feC p.Z)))) % pr)), .agg (feC (nm (feC p.Y) * nm (feC (invF (nm (feC p.Z)))) % pr)), .bool true], (((((((((((((((((((True ∧ True) ∧ True) ∧ True) ∧ (feD.is (feC p.Z) ∧ (decide (nm (feC p.Z) % pr = 0 % pr)) = false)) ∧ True) ∧ True) ∧ feD.is (feC p.Z)) ∧ ((feC (invF (nm (feC p.Z)))).all (fun v => v.oneCell') = true)) ∧ True) ∧ True) ∧ True) ∧ (feD.is (feC p.X) ∧ feD.is (feC (invF (nm (feC p.Z)))))) ∧ True) ∧ True) ∧ True) ∧ (feD.is (feC p.Y) ∧ feD.is (feC (invF (nm (feC p.Z)))))) ∧ ((feC (nm (feC p.X) * nm (feC (invF (nm (feC p.Z)))) % pr)).all (fun v => v.oneCell') = true)) ∧ ((feC (nm (feC p.Y) * nm (feC (invF (nm (feC p.Z)))) % pr)).all (fun v => v.oneCell') = true)) ∧ True)) := by kernel_rfl
def af_F (p : P4) : Value := cond (decide (nm (feC p.Z) % pr = 0 % pr)) (.tuple #[.agg (feC 0), .agg (feC 0), .bool false]) (.tuple #[.agg (feC (nm (feC p.X) * nm (feC (invF (nm (feC p.Z)))) % pr)), .agg (feC (nm (feC p.Y) * nm (feC (invF (nm (feC p.Z)))) % pr)), .bool true])
set_option maxHeartbeats 4000000 in
theorem af_p (p : P4) (hp : Ok4 p) : Pure Try.prog 20 #[.agg (ptC p)] (af_F p) := by
  have ⟨hX, hY, hZ, hT⟩ := hp
  unfold af_F
  cases h0 : (decide (nm (feC p.Z) % pr = 0 % pr))
  · skip
    exact pure_of mixed Try.func20 _ (af_1 p) rfl ⟨⟨⟨⟨⟨⟨⟨⟨⟨⟨⟨⟨⟨⟨⟨⟨⟨⟨⟨trivial, trivial⟩, trivial⟩, trivial⟩, ⟨(feD.is_enc (hp.2.2.1)), h0⟩⟩, trivial⟩, trivial⟩, (feD.is_enc (hp.2.2.1))⟩, one_fe _⟩, trivial⟩, trivial⟩, trivial⟩, ⟨(feD.is_enc (hp.1)), (feD.is_enc (ok_pm _ _))⟩⟩, trivial⟩, trivial⟩, trivial⟩, ⟨(feD.is_enc (hp.2.1)), (feD.is_enc (ok_pm _ _))⟩⟩, one_fe _⟩, one_fe _⟩, trivial⟩
  · skip
    exact pure_of mixed Try.func20 _ (af_0 p) rfl ⟨⟨⟨⟨⟨⟨⟨⟨⟨trivial, trivial⟩, trivial⟩, trivial⟩, ⟨(feD.is_enc (hp.2.2.1)), h0⟩⟩, trivial⟩, trivial⟩, one_fe _⟩, one_fe _⟩, trivial⟩
def af_S (p : P4) : Value := cond (decide (p.Z % pr = 0 % pr)) (.tuple #[.agg (feC 0), .agg (feC 0), .bool false]) (.tuple #[.agg (feC (p.X * (invF (p.Z)) % pr)), .agg (feC (p.Y * (invF (p.Z)) % pr)), .bool true])
theorem af_e (p : P4) (hp : Ok4 p) : af_F p = af_S p := by
  have ⟨hX, hY, hZ, hT⟩ := hp
  unfold af_F af_S
  simp only [nm_mod, nn_mod, nm_inv, nn_inv, nm_d, nn_d, nm_1, nn_1, nm_root, nn_quo, nm_feC _ hX, nm_feC _ hY, nm_feC _ hZ]
def rd_h (i : Nat) : Hn := ⟨0, [], [], []⟩
theorem rd_0  : evF (yty.en tab1) rd_h Try.f46 [] [] = some (.agg (nuC (nn (nuC (-(nn (nuC 121665)) % pr)) * nn (nuC (invF (nn (nuC 121666)))) % pr)), ((((((True ∧ (IntKind.u64 = IntKind.u64 ∧ w64 121665)) ∧ nuD.is (nuC 121665)) ∧ (IntKind.u64 = IntKind.u64 ∧ w64 121666)) ∧ nuD.is (nuC 121666)) ∧ (nuD.is (nuC (-(nn (nuC 121665)) % pr)) ∧ nuD.is (nuC (invF (nn (nuC 121666)))))) ∧ ((nuC (nn (nuC (-(nn (nuC 121665)) % pr)) * nn (nuC (invF (nn (nuC 121666)))) % pr)).all (fun v => v.oneCell') = true))) := by kernel_rfl
def rd_F  : Value := .agg (nuC (nn (nuC (-(nn (nuC 121665)) % pr)) * nn (nuC (invF (nn (nuC 121666)))) % pr))
set_option maxHeartbeats 4000000 in
theorem rd_p   : Pure Try.prog 46 #[] (rd_F) := by
  unfold rd_F
  exact pure_of mixed Try.func46 _ (rd_0) rfl ⟨⟨⟨⟨⟨⟨trivial, ⟨rfl, ⟨by decide, by decide⟩⟩⟩, (nuD.is_enc ⟨by decide, by decide⟩)⟩, ⟨rfl, ⟨by decide, by decide⟩⟩⟩, (nuD.is_enc ⟨by decide, by decide⟩)⟩, ⟨(nuD.is_enc (mod_bd _)), (nuD.is_enc (bd_inv _))⟩⟩, one_nu _⟩
def rd_R  : Int := (-(121665) % pr) * (invF (121666)) % pr
def rd_S  : Value := .agg (nuC (rd_R))
theorem rd_e   : rd_F = rd_S := by
  unfold rd_F rd_S rd_R
  simp only [nm_mod, nn_mod, nm_inv, nn_inv, nm_d, nn_d, nm_1, nn_1, nm_root, nn_quo, nn_nuC 121665 ⟨by decide, by decide⟩, nn_nuC 121666 ⟨by decide, by decide⟩]
def rid_h (i : Nat) : Hn := ⟨0, [], [], []⟩
theorem rid_0  : evF (yty.en tab1) rid_h Try.f15 [] [] = some (.agg (rpC (⟨0, 1, 1⟩ : P3)), (((((True ∧ True) ∧ (IntKind.u64 = IntKind.u64 ∧ w64 1)) ∧ (IntKind.u64 = IntKind.u64 ∧ w64 1)) ∧ True) ∧ ((rpC (⟨0, 1, 1⟩ : P3)).all (fun v => v.oneCell') = true))) := by kernel_rfl
def rid_F  : Value := .agg (rpC (⟨0, 1, 1⟩ : P3))
set_option maxHeartbeats 4000000 in
theorem rid_p   : Pure Try.prog 15 #[] (rid_F) := by
  unfold rid_F
  exact pure_of mixed Try.func15 _ (rid_0) rfl ⟨⟨⟨⟨⟨trivial, trivial⟩, ⟨rfl, ⟨by decide, by decide⟩⟩⟩, ⟨rfl, ⟨by decide, by decide⟩⟩⟩, trivial⟩, rpC_one _⟩
def rab_h (i : Nat) : Hn := if i = 5 then ⟨6, [], [], []⟩ else if i = 8 then ⟨12, [], [], []⟩ else if i = 9 then ⟨16, [], [], []⟩ else ⟨0, [], [], []⟩
theorem rab_0 (p q : P3) (d : Int) : evF (yty.en tab1) rab_h Try.f58 [.agg (rpC p), .agg (rpC q), .agg (nuC d)] [] = some (.agg (rpC (⟨nn (nuC (nn (nuC (nn (nuC p.Z) * nn (nuC q.Z) % pr)) * nn (nuC ((nn (nuC (nn (nuC (nn (nuC p.Z) * nn (nuC q.Z) % pr)) * nn (nuC (nn (nuC p.Z) * nn (nuC q.Z) % pr)) % pr)) - nn (nuC (nn (nuC d) * nn (nuC (nn (nuC (nn (nuC p.X) * nn (nuC q.X) % pr)) * nn (nuC (nn (nuC p.Y) * nn (nuC q.Y) % pr)) % pr)) % pr))) % pr)) % pr)) * nn (nuC ((nn (nuC (nn (nuC p.X) * nn (nuC q.Y) % pr)) + nn (nuC (nn (nuC q.X) * nn (nuC p.Y) % pr))) % pr)) % pr, nn (nuC (nn (nuC (nn (nuC p.Z) * nn (nuC q.Z) % pr)) * nn (nuC ((nn (nuC (nn (nuC (nn (nuC p.Z) * nn (nuC q.Z) % pr)) * nn (nuC (nn (nuC p.Z) * nn (nuC q.Z) % pr)) % pr)) + nn (nuC (nn (nuC d) * nn (nuC (nn (nuC (nn (nuC p.X) * nn (nuC q.X) % pr)) * nn (nuC (nn (nuC p.Y) * nn (nuC q.Y) % pr)) % pr)) % pr))) % pr)) % pr)) * nn (nuC ((nn (nuC (nn (nuC p.Y) * nn (nuC q.Y) % pr)) + nn (nuC (nn (nuC p.X) * nn (nuC q.X) % pr))) % pr)) % pr, nn (nuC ((nn (nuC (nn (nuC (nn (nuC p.Z) * nn (nuC q.Z) % pr)) * nn (nuC (nn (nuC p.Z) * nn (nuC q.Z) % pr)) % pr)) - nn (nuC (nn (nuC d) * nn (nuC (nn (nuC (nn (nuC p.X) * nn (nuC q.X) % pr)) * nn (nuC (nn (nuC p.Y) * nn (nuC q.Y) % pr)) % pr)) % pr))) % pr)) * nn (nuC ((nn (nuC (nn (nuC (nn (nuC p.Z) * nn (nuC q.Z) % pr)) * nn (nuC (nn (nuC p.Z) * nn (nuC q.Z) % pr)) % pr)) + nn (nuC (nn (nuC d) * nn (nuC (nn (nuC (nn (nuC p.X) * nn (nuC q.X) % pr)) * nn (nuC (nn (nuC p.Y) * nn (nuC q.Y) % pr)) % pr)) % pr))) % pr)) % pr⟩ : P3)), (((((((((((((((((((((((((((((((((((((((((((((((((((((((((((((((((True ∧ True) ∧ True) ∧ True) ∧ True) ∧ (nuD.is (nuC p.Z) ∧ nuD.is (nuC q.Z))) ∧ ((nuC (nn (nuC p.Z) * nn (nuC q.Z) % pr)).all (fun v => v.oneCell') = true)) ∧ True) ∧ True) ∧ (nuD.is (nuC (nn (nuC p.Z) * nn (nuC q.Z) % pr)) ∧ nuD.is (nuC (nn (nuC p.Z) * nn (nuC q.Z) % pr)))) ∧ ((nuC (nn (nuC (nn (nuC p.Z) * nn (nuC q.Z) % pr)) * nn (nuC (nn (nuC p.Z) * nn (nuC q.Z) % pr)) % pr)).all (fun v => v.oneCell') = true)) ∧ True) ∧ True) ∧ True) ∧ True) ∧ (nuD.is (nuC p.X) ∧ nuD.is (nuC q.X))) ∧ ((nuC (nn (nuC p.X) * nn (nuC q.X) % pr)).all (fun v => v.oneCell') = true)) ∧ True) ∧ True) ∧ True) ∧ True) ∧ (nuD.is (nuC p.Y) ∧ nuD.is (nuC q.Y))) ∧ ((nuC (nn (nuC p.Y) * nn (nuC q.Y) % pr)).all (fun v => v.oneCell') = true)) ∧ True) ∧ True) ∧ True) ∧ (nuD.is (nuC (nn (nuC p.X) * nn (nuC q.X) % pr)) ∧ nuD.is (nuC (nn (nuC p.Y) * nn (nuC q.Y) % pr)))) ∧ (nuD.is (nuC d) ∧ nuD.is (nuC (nn (nuC (nn (nuC p.X) * nn (nuC q.X) % pr)) * nn (nuC (nn (nuC p.Y) * nn (nuC q.Y) % pr)) % pr)))) ∧ ((nuC (nn (nuC d) * nn (nuC (nn (nuC (nn (nuC p.X) * nn (nuC q.X) % pr)) * nn (nuC (nn (nuC p.Y) * nn (nuC q.Y) % pr)) % pr)) % pr)).all (fun v => v.oneCell') = true)) ∧ True) ∧ True) ∧ (nuD.is (nuC (nn (nuC (nn (nuC p.Z) * nn (nuC q.Z) % pr)) * nn (nuC (nn (nuC p.Z) * nn (nuC q.Z) % pr)) % pr)) ∧ nuD.is (nuC (nn (nuC d) * nn (nuC (nn (nuC (nn (nuC p.X) * nn (nuC q.X) % pr)) * nn (nuC (nn (nuC p.Y) * nn (nuC q.Y) % pr)) % pr)) % pr)))) ∧ ((nuC ((nn (nuC (nn (nuC (nn (nuC p.Z) * nn (nuC q.Z) % pr)) * nn (nuC (nn (nuC p.Z) * nn (nuC q.Z) % pr)) % pr)) - nn (nuC (nn (nuC d) * nn (nuC (nn (nuC (nn (nuC p.X) * nn (nuC q.X) % pr)) * nn (nuC (nn (nuC p.Y) * nn (nuC q.Y) % pr)) % pr)) % pr))) % pr)).all (fun v => v.oneCell') = true)) ∧ True) ∧ True) ∧ (nuD.is (nuC (nn (nuC (nn (nuC p.Z) * nn (nuC q.Z) % pr)) * nn (nuC (nn (nuC p.Z) * nn (nuC q.Z) % pr)) % pr)) ∧ nuD.is (nuC (nn (nuC d) * nn (nuC (nn (nuC (nn (nuC p.X) * nn (nuC q.X) % pr)) * nn (nuC (nn (nuC p.Y) * nn (nuC q.Y) % pr)) % pr)) % pr)))) ∧ ((nuC ((nn (nuC (nn (nuC (nn (nuC p.Z) * nn (nuC q.Z) % pr)) * nn (nuC (nn (nuC p.Z) * nn (nuC q.Z) % pr)) % pr)) + nn (nuC (nn (nuC d) * nn (nuC (nn (nuC (nn (nuC p.X) * nn (nuC q.X) % pr)) * nn (nuC (nn (nuC p.Y) * nn (nuC q.Y) % pr)) % pr)) % pr))) % pr)).all (fun v => v.oneCell') = true)) ∧ True) ∧ True) ∧ True) ∧ True) ∧ (nuD.is (nuC p.X) ∧ nuD.is (nuC q.Y))) ∧ True) ∧ True) ∧ True) ∧ True) ∧ (nuD.is (nuC q.X) ∧ nuD.is (nuC p.Y))) ∧ (nuD.is (nuC (nn (nuC p.X) * nn (nuC q.Y) % pr)) ∧ nuD.is (nuC (nn (nuC q.X) * nn (nuC p.Y) % pr)))) ∧ ((nuC ((nn (nuC (nn (nuC p.X) * nn (nuC q.Y) % pr)) + nn (nuC (nn (nuC q.X) * nn (nuC p.Y) % pr))) % pr)).all (fun v => v.oneCell') = true)) ∧ True) ∧ True) ∧ (nuD.is (nuC (nn (nuC p.Z) * nn (nuC q.Z) % pr)) ∧ nuD.is (nuC ((nn (nuC (nn (nuC (nn (nuC p.Z) * nn (nuC q.Z) % pr)) * nn (nuC (nn (nuC p.Z) * nn (nuC q.Z) % pr)) % pr)) - nn (nuC (nn (nuC d) * nn (nuC (nn (nuC (nn (nuC p.X) * nn (nuC q.X) % pr)) * nn (nuC (nn (nuC p.Y) * nn (nuC q.Y) % pr)) % pr)) % pr))) % pr)))) ∧ True) ∧ (nuD.is (nuC (nn (nuC (nn (nuC p.Z) * nn (nuC q.Z) % pr)) * nn (nuC ((nn (nuC (nn (nuC (nn (nuC p.Z) * nn (nuC q.Z) % pr)) * nn (nuC (nn (nuC p.Z) * nn (nuC q.Z) % pr)) % pr)) - nn (nuC (nn (nuC d) * nn (nuC (nn (nuC (nn (nuC p.X) * nn (nuC q.X) % pr)) * nn (nuC (nn (nuC p.Y) * nn (nuC q.Y) % pr)) % pr)) % pr))) % pr)) % pr)) ∧ nuD.is (nuC ((nn (nuC (nn (nuC p.X) * nn (nuC q.Y) % pr)) + nn (nuC (nn (nuC q.X) * nn (nuC p.Y) % pr))) % pr)))) ∧ True) ∧ True) ∧ (nuD.is (nuC (nn (nuC p.Z) * nn (nuC q.Z) % pr)) ∧ nuD.is (nuC ((nn (nuC (nn (nuC (nn (nuC p.Z) * nn (nuC q.Z) % pr)) * nn (nuC (nn (nuC p.Z) * nn (nuC q.Z) % pr)) % pr)) + nn (nuC (nn (nuC d) * nn (nuC (nn (nuC (nn (nuC p.X) * nn (nuC q.X) % pr)) * nn (nuC (nn (nuC p.Y) * nn (nuC q.Y) % pr)) % pr)) % pr))) % pr)))) ∧ True) ∧ True) ∧ (nuD.is (nuC (nn (nuC p.Y) * nn (nuC q.Y) % pr)) ∧ nuD.is (nuC (nn (nuC p.X) * nn (nuC q.X) % pr)))) ∧ (nuD.is (nuC (nn (nuC (nn (nuC p.Z) * nn (nuC q.Z) % pr)) * nn (nuC ((nn (nuC (nn (nuC (nn (nuC p.Z) * nn (nuC q.Z) % pr)) * nn (nuC (nn (nuC p.Z) * nn (nuC q.Z) % pr)) % pr)) + nn (nuC (nn (nuC d) * nn (nuC (nn (nuC (nn (nuC p.X) * nn (nuC q.X) % pr)) * nn (nuC (nn (nuC p.Y) * nn (nuC q.Y) % pr)) % pr)) % pr))) % pr)) % pr)) ∧ nuD.is (nuC ((nn (nuC (nn (nuC p.Y) * nn (nuC q.Y) % pr)) + nn (nuC (nn (nuC p.X) * nn (nuC q.X) % pr))) % pr)))) ∧ True) ∧ True) ∧ (nuD.is (nuC ((nn (nuC (nn (nuC (nn (nuC p.Z) * nn (nuC q.Z) % pr)) * nn (nuC (nn (nuC p.Z) * nn (nuC q.Z) % pr)) % pr)) - nn (nuC (nn (nuC d) * nn (nuC (nn (nuC (nn (nuC p.X) * nn (nuC q.X) % pr)) * nn (nuC (nn (nuC p.Y) * nn (nuC q.Y) % pr)) % pr)) % pr))) % pr)) ∧ nuD.is (nuC ((nn (nuC (nn (nuC (nn (nuC p.Z) * nn (nuC q.Z) % pr)) * nn (nuC (nn (nuC p.Z) * nn (nuC q.Z) % pr)) % pr)) + nn (nuC (nn (nuC d) * nn (nuC (nn (nuC (nn (nuC p.X) * nn (nuC q.X) % pr)) * nn (nuC (nn (nuC p.Y) * nn (nuC q.Y) % pr)) % pr)) % pr))) % pr)))) ∧ True) ∧ ((rpC (⟨nn (nuC (nn (nuC (nn (nuC p.Z) * nn (nuC q.Z) % pr)) * nn (nuC ((nn (nuC (nn (nuC (nn (nuC p.Z) * nn (nuC q.Z) % pr)) * nn (nuC (nn (nuC p.Z) * nn (nuC q.Z) % pr)) % pr)) - nn (nuC (nn (nuC d) * nn (nuC (nn (nuC (nn (nuC p.X) * nn (nuC q.X) % pr)) * nn (nuC (nn (nuC p.Y) * nn (nuC q.Y) % pr)) % pr)) % pr))) % pr)) % pr)) * nn (nuC ((nn (nuC (nn (nuC p.X) * nn (nuC q.Y) % pr)) + nn (nuC (nn (nuC q.X) * nn (nuC p.Y) % pr))) % pr)) % pr, nn (nuC (nn (nuC (nn (nuC p.Z) * nn (nuC q.Z) % pr)) * nn (nuC ((nn (nuC (nn (nuC (nn (nuC p.Z) * nn (nuC q.Z) % pr)) * nn (nuC (nn (nuC p.Z) * nn (nuC q.Z) % pr)) % pr)) + nn (nuC (nn (nuC d) * nn (nuC (nn (nuC (nn (nuC p.X) * nn (nuC q.X) % pr)) * nn (nuC (nn (nuC p.Y) * nn (nuC q.Y) % pr)) % pr)) % pr))) % pr)) % pr)) * nn (nuC ((nn (nuC (nn (nuC p.Y) * nn (nuC q.Y) % pr)) + nn (nuC (nn (nuC p.X) * nn (nuC q.X) % pr))) % pr)) % pr, nn (nuC ((nn (nuC (nn (nuC (nn (nuC p.Z) * nn (nuC q.Z) % pr)) * nn (nuC (nn (nuC p.Z) * nn (nuC q.Z) % pr)) % pr)) - nn (nuC (nn (nuC d) * nn (nuC (nn (nuC (nn (nuC p.X) * nn (nuC q.X) % pr)) * nn (nuC (nn (nuC p.Y) * nn (nuC q.Y) % pr)) % pr)) % pr))) % pr)) * nn (nuC ((nn (nuC (nn (nuC (nn (nuC p.Z) * nn (nuC q.Z) % pr)) * nn (nuC (nn (nuC p.Z) * nn (nuC q.Z) % pr)) % pr)) + nn (nuC (nn (nuC d) * nn (nuC (nn (nuC (nn (nuC p.X) * nn (nuC q.X) % pr)) * nn (nuC (nn (nuC p.Y) * nn (nuC q.Y) % pr)) % pr)) % pr))) % pr)) % pr⟩ : P3)).all (fun v => v.oneCell') = true))) := by kernel_rfl
def rab_F (p q : P3) (d : Int) : Value := .agg (rpC (⟨nn (nuC (nn (nuC (nn (nuC p.Z) * nn (nuC q.Z) % pr)) * nn (nuC ((nn (nuC (nn (nuC (nn (nuC p.Z) * nn (nuC q.Z) % pr)) * nn (nuC (nn (nuC p.Z) * nn (nuC q.Z) % pr)) % pr)) - nn (nuC (nn (nuC d) * nn (nuC (nn (nuC (nn (nuC p.X) * nn (nuC q.X) % pr)) * nn (nuC (nn (nuC p.Y) * nn (nuC q.Y) % pr)) % pr)) % pr))) % pr)) % pr)) * nn (nuC ((nn (nuC (nn (nuC p.X) * nn (nuC q.Y) % pr)) + nn (nuC (nn (nuC q.X) * nn (nuC p.Y) % pr))) % pr)) % pr, nn (nuC (nn (nuC (nn (nuC p.Z) * nn (nuC q.Z) % pr)) * nn (nuC ((nn (nuC (nn (nuC (nn (nuC p.Z) * nn (nuC q.Z) % pr)) * nn (nuC (nn (nuC p.Z) * nn (nuC q.Z) % pr)) % pr)) + nn (nuC (nn (nuC d) * nn (nuC (nn (nuC (nn (nuC p.X) * nn (nuC q.X) % pr)) * nn (nuC (nn (nuC p.Y) * nn (nuC q.Y) % pr)) % pr)) % pr))) % pr)) % pr)) * nn (nuC ((nn (nuC (nn (nuC p.Y) * nn (nuC q.Y) % pr)) + nn (nuC (nn (nuC p.X) * nn (nuC q.X) % pr))) % pr)) % pr, nn (nuC ((nn (nuC (nn (nuC (nn (nuC p.Z) * nn (nuC q.Z) % pr)) * nn (nuC (nn (nuC p.Z) * nn (nuC q.Z) % pr)) % pr)) - nn (nuC (nn (nuC d) * nn (nuC (nn (nuC (nn (nuC p.X) * nn (nuC q.X) % pr)) * nn (nuC (nn (nuC p.Y) * nn (nuC q.Y) % pr)) % pr)) % pr))) % pr)) * nn (nuC ((nn (nuC (nn (nuC (nn (nuC p.Z) * nn (nuC q.Z) % pr)) * nn (nuC (nn (nuC p.Z) * nn (nuC q.Z) % pr)) % pr)) + nn (nuC (nn (nuC d) * nn (nuC (nn (nuC (nn (nuC p.X) * nn (nuC q.X) % pr)) * nn (nuC (nn (nuC p.Y) * nn (nuC q.Y) % pr)) % pr)) % pr))) % pr)) % pr⟩ : P3))
set_option maxHeartbeats 4000000 in
theorem rab_p (p q : P3) (d : Int) (hp : Nu3 p) (hq : Nu3 q) (hd : 0 ≤ d ∧ d < pr) : Pure Try.prog 58 #[.agg (rpC p), .agg (rpC q), .agg (nuC d)] (rab_F p q d) := by
  have ⟨hX, hY, hZ⟩ := hp
  have ⟨kX, kY, kZ⟩ := hq
  unfold rab_F
  exact pure_of mixed Try.func58 _ (rab_0 p q d) rfl ⟨⟨⟨⟨⟨⟨⟨⟨⟨⟨⟨⟨⟨⟨⟨⟨⟨⟨⟨⟨⟨⟨⟨⟨⟨⟨⟨⟨⟨⟨⟨⟨⟨⟨⟨⟨⟨⟨⟨⟨⟨⟨⟨⟨⟨⟨⟨⟨⟨⟨⟨⟨⟨⟨⟨⟨⟨⟨⟨⟨⟨⟨⟨⟨⟨trivial, trivial⟩, trivial⟩, trivial⟩, trivial⟩, ⟨(nuD.is_enc (hp.2.2)), (nuD.is_enc (hq.2.2))⟩⟩, one_nu _⟩, trivial⟩, trivial⟩, ⟨(nuD.is_enc (mod_bd _)), (nuD.is_enc (mod_bd _))⟩⟩, one_nu _⟩, trivial⟩, trivial⟩, trivial⟩, trivial⟩, ⟨(nuD.is_enc (hp.1)), (nuD.is_enc (hq.1))⟩⟩, one_nu _⟩, trivial⟩, trivial⟩, trivial⟩, trivial⟩, ⟨(nuD.is_enc (hp.2.1)), (nuD.is_enc (hq.2.1))⟩⟩, one_nu _⟩, trivial⟩, trivial⟩, trivial⟩, ⟨(nuD.is_enc (mod_bd _)), (nuD.is_enc (mod_bd _))⟩⟩, ⟨(nuD.is_enc (hd)), (nuD.is_enc (mod_bd _))⟩⟩, one_nu _⟩, trivial⟩, trivial⟩, ⟨(nuD.is_enc (mod_bd _)), (nuD.is_enc (mod_bd _))⟩⟩, one_nu _⟩, trivial⟩, trivial⟩, ⟨(nuD.is_enc (mod_bd _)), (nuD.is_enc (mod_bd _))⟩⟩, one_nu _⟩, trivial⟩, trivial⟩, trivial⟩, trivial⟩, ⟨(nuD.is_enc (hp.1)), (nuD.is_enc (hq.2.1))⟩⟩, trivial⟩, trivial⟩, trivial⟩, trivial⟩, ⟨(nuD.is_enc (hq.1)), (nuD.is_enc (hp.2.1))⟩⟩, ⟨(nuD.is_enc (mod_bd _)), (nuD.is_enc (mod_bd _))⟩⟩, one_nu _⟩, trivial⟩, trivial⟩, ⟨(nuD.is_enc (mod_bd _)), (nuD.is_enc (mod_bd _))⟩⟩, trivial⟩, ⟨(nuD.is_enc (mod_bd _)), (nuD.is_enc (mod_bd _))⟩⟩, trivial⟩, trivial⟩, ⟨(nuD.is_enc (mod_bd _)), (nuD.is_enc (mod_bd _))⟩⟩, trivial⟩, trivial⟩, ⟨(nuD.is_enc (mod_bd _)), (nuD.is_enc (mod_bd _))⟩⟩, ⟨(nuD.is_enc (mod_bd _)), (nuD.is_enc (mod_bd _))⟩⟩, trivial⟩, trivial⟩, ⟨(nuD.is_enc (mod_bd _)), (nuD.is_enc (mod_bd _))⟩⟩, trivial⟩, rpC_one _⟩
def rab_R (p q : P3) (d : Int) : P3 := (⟨((p.Z * q.Z % pr) * ((((p.Z * q.Z % pr) * (p.Z * q.Z % pr) % pr) - (d * ((p.X * q.X % pr) * (p.Y * q.Y % pr) % pr) % pr)) % pr) % pr) * (((p.X * q.Y % pr) + (q.X * p.Y % pr)) % pr) % pr, ((p.Z * q.Z % pr) * ((((p.Z * q.Z % pr) * (p.Z * q.Z % pr) % pr) + (d * ((p.X * q.X % pr) * (p.Y * q.Y % pr) % pr) % pr)) % pr) % pr) * (((p.Y * q.Y % pr) + (p.X * q.X % pr)) % pr) % pr, ((((p.Z * q.Z % pr) * (p.Z * q.Z % pr) % pr) - (d * ((p.X * q.X % pr) * (p.Y * q.Y % pr) % pr) % pr)) % pr) * ((((p.Z * q.Z % pr) * (p.Z * q.Z % pr) % pr) + (d * ((p.X * q.X % pr) * (p.Y * q.Y % pr) % pr) % pr)) % pr) % pr⟩ : P3)
def rab_S (p q : P3) (d : Int) : Value := .agg (rpC (rab_R p q d))
theorem rab_e (p q : P3) (d : Int) (hp : Nu3 p) (hq : Nu3 q) (hd : 0 ≤ d ∧ d < pr) : rab_F p q d = rab_S p q d := by
  have ⟨hX, hY, hZ⟩ := hp
  have ⟨kX, kY, kZ⟩ := hq
  unfold rab_F rab_S rab_R
  simp only [nm_mod, nn_mod, nm_inv, nn_inv, nm_d, nn_d, nm_1, nn_1, nm_root, nn_quo, nn_nuC _ hX, nn_nuC _ hY, nn_nuC _ hZ, nn_nuC _ kX, nn_nuC _ kY, nn_nuC _ kZ, nn_nuC _ hd]
def rng_h (i : Nat) : Hn := if i = 1 then ⟨8, [], [], []⟩ else ⟨0, [], [], []⟩
theorem rng_0 (p : P3) : evF (yty.en tab1) rng_h Try.f28 [.agg (rpC p)] [] = some (.agg (rpC (⟨-(nn (nuC p.X)) % pr, p.Y, p.Z⟩ : P3)), (((((((((True ∧ True) ∧ True) ∧ nuD.is (nuC p.X)) ∧ True) ∧ True) ∧ True) ∧ True) ∧ True) ∧ ((rpC (⟨-(nn (nuC p.X)) % pr, p.Y, p.Z⟩ : P3)).all (fun v => v.oneCell') = true))) := by kernel_rfl
def rng_F (p : P3) : Value := .agg (rpC (⟨-(nn (nuC p.X)) % pr, p.Y, p.Z⟩ : P3))
set_option maxHeartbeats 4000000 in
theorem rng_p (p : P3) (hp : Nu3 p) : Pure Try.prog 28 #[.agg (rpC p)] (rng_F p) := by
  have ⟨hX, hY, hZ⟩ := hp
  unfold rng_F
  exact pure_of mixed Try.func28 _ (rng_0 p) rfl ⟨⟨⟨⟨⟨⟨⟨⟨⟨trivial, trivial⟩, trivial⟩, (nuD.is_enc (hp.1))⟩, trivial⟩, trivial⟩, trivial⟩, trivial⟩, trivial⟩, rpC_one _⟩
def rng_R (p : P3) : P3 := (⟨-(p.X) % pr, p.Y, p.Z⟩ : P3)
def rng_S (p : P3) : Value := .agg (rpC (rng_R p))
theorem rng_e (p : P3) (hp : Nu3 p) : rng_F p = rng_S p := by
  have ⟨hX, hY, hZ⟩ := hp
  unfold rng_F rng_S rng_R
  simp only [nm_mod, nn_mod, nm_inv, nn_inv, nm_d, nn_d, nm_1, nn_1, nm_root, nn_quo, nn_nuC _ hX]
def rsm_h (i : Nat) : Hn := if i = 1 then ⟨25, [], [], []⟩ else ⟨0, [], [], []⟩
theorem rsm_0 (p q : P3) : evF (yty.en tab1) rsm_h Try.f19 [.agg (rpC p), .agg (rpC q)] [some true, none] = some (.bool (decide (nn (nuC (nn (nuC p.Y) * nn (nuC q.Z) % pr)) = nn (nuC (nn (nuC q.Y) * nn (nuC p.Z) % pr)))), ((((((((((((((((((((((((((True ∧ True) ∧ True) ∧ True) ∧ True) ∧ True) ∧ (nuD.is (nuC p.X) ∧ nuD.is (nuC q.Z))) ∧ True) ∧ True) ∧ True) ∧ True) ∧ (nuD.is (nuC q.X) ∧ nuD.is (nuC p.Z))) ∧ ((nuD.is (nuC (nn (nuC p.X) * nn (nuC q.Z) % pr)) ∧ nuD.is (nuC (nn (nuC q.X) * nn (nuC p.Z) % pr))) ∧ (decide (nn (nuC (nn (nuC p.X) * nn (nuC q.Z) % pr)) = nn (nuC (nn (nuC q.X) * nn (nuC p.Z) % pr)))) = true)) ∧ True) ∧ True) ∧ True) ∧ True) ∧ True) ∧ (nuD.is (nuC p.Y) ∧ nuD.is (nuC q.Z))) ∧ True) ∧ True) ∧ True) ∧ True) ∧ (nuD.is (nuC q.Y) ∧ nuD.is (nuC p.Z))) ∧ (nuD.is (nuC (nn (nuC p.Y) * nn (nuC q.Z) % pr)) ∧ nuD.is (nuC (nn (nuC q.Y) * nn (nuC p.Z) % pr)))) ∧ True) ∧ True)) := by kernel_rfl
theorem rsm_1 (p q : P3) : evF (yty.en tab1) rsm_h Try.f19 [.agg (rpC p), .agg (rpC q)] [some false] = some (.bool false, (((((((((((((((True ∧ True) ∧ True) ∧ True) ∧ True) ∧ True) ∧ (nuD.is (nuC p.X) ∧ nuD.is (nuC q.Z))) ∧ True) ∧ True) ∧ True) ∧ True) ∧ (nuD.is (nuC q.X) ∧ nuD.is (nuC p.Z))) ∧ ((nuD.is (nuC (nn (nuC p.X) * nn (nuC q.Z) % pr)) ∧ nuD.is (nuC (nn (nuC q.X) * nn (nuC p.Z) % pr))) ∧ (decide (nn (nuC (nn (nuC p.X) * nn (nuC q.Z) % pr)) = nn (nuC (nn (nuC q.X) * nn (nuC p.Z) % pr)))) = false)) ∧ True) ∧ True) ∧ True)) := by kernel_rfl
def rsm_F (p q : P3) : Value := cond (decide (nn (nuC (nn (nuC p.X) * nn (nuC q.Z) % pr)) = nn (nuC (nn (nuC q.X) * nn (nuC p.Z) % pr)))) (.bool (decide (nn (nuC (nn (nuC p.Y) * nn (nuC q.Z) % pr)) = nn (nuC (nn (nuC q.Y) * nn (nuC p.Z) % pr))))) (.bool false)
set_option maxHeartbeats 4000000 in
theorem rsm_p (p q : P3) (hp : Nu3 p) (hq : Nu3 q) : Pure Try.prog 19 #[.agg (rpC p), .agg (rpC q)] (rsm_F p q) := by
  have ⟨hX, hY, hZ⟩ := hp
  have ⟨kX, kY, kZ⟩ := hq
  unfold rsm_F
  cases h0 : (decide (nn (nuC (nn (nuC p.X) * nn (nuC q.Z) % pr)) = nn (nuC (nn (nuC q.X) * nn (nuC p.Z) % pr))))
  · skip
    exact pure_of mixed Try.func19 _ (rsm_1 p q) rfl ⟨⟨⟨⟨⟨⟨⟨⟨⟨⟨⟨⟨⟨⟨⟨trivial, trivial⟩, trivial⟩, trivial⟩, trivial⟩, trivial⟩, ⟨(nuD.is_enc (hp.1)), (nuD.is_enc (hq.2.2))⟩⟩, trivial⟩, trivial⟩, trivial⟩, trivial⟩, ⟨(nuD.is_enc (hq.1)), (nuD.is_enc (hp.2.2))⟩⟩, ⟨⟨(nuD.is_enc (mod_bd _)), (nuD.is_enc (mod_bd _))⟩, h0⟩⟩, trivial⟩, trivial⟩, trivial⟩
  · skip
    exact pure_of mixed Try.func19 _ (rsm_0 p q) rfl ⟨⟨⟨⟨⟨⟨⟨⟨⟨⟨⟨⟨⟨⟨⟨⟨⟨⟨⟨⟨⟨⟨⟨⟨⟨⟨trivial, trivial⟩, trivial⟩, trivial⟩, trivial⟩, trivial⟩, ⟨(nuD.is_enc (hp.1)), (nuD.is_enc (hq.2.2))⟩⟩, trivial⟩, trivial⟩, trivial⟩, trivial⟩, ⟨(nuD.is_enc (hq.1)), (nuD.is_enc (hp.2.2))⟩⟩, ⟨⟨(nuD.is_enc (mod_bd _)), (nuD.is_enc (mod_bd _))⟩, h0⟩⟩, trivial⟩, trivial⟩, trivial⟩, trivial⟩, trivial⟩, ⟨(nuD.is_enc (hp.2.1)), (nuD.is_enc (hq.2.2))⟩⟩, trivial⟩, trivial⟩, trivial⟩, trivial⟩, ⟨(nuD.is_enc (hq.2.1)), (nuD.is_enc (hp.2.2))⟩⟩, ⟨(nuD.is_enc (mod_bd _)), (nuD.is_enc (mod_bd _))⟩⟩, trivial⟩, trivial⟩
def rsm_S (p q : P3) : Value := cond (decide ((p.X * q.Z % pr) = (q.X * p.Z % pr))) (.bool (decide ((p.Y * q.Z % pr) = (q.Y * p.Z % pr)))) (.bool false)
theorem rsm_e (p q : P3) (hp : Nu3 p) (hq : Nu3 q) : rsm_F p q = rsm_S p q := by
  have ⟨hX, hY, hZ⟩ := hp
  have ⟨kX, kY, kZ⟩ := hq
  unfold rsm_F rsm_S
  simp only [nm_mod, nn_mod, nm_inv, nn_inv, nm_d, nn_d, nm_1, nn_1, nm_root, nn_quo, nn_nuC _ hX, nn_nuC _ hY, nn_nuC _ hZ, nn_nuC _ kX, nn_nuC _ kY, nn_nuC _ kZ]
def raf_h (i : Nat) : Hn := if i = 2 then ⟨8, [], [], []⟩ else ⟨0, [], [], []⟩
theorem raf_0 (p : P3) : evF (yty.en tab1) raf_h Try.f22 [.agg (rpC p)] [] = some (.tuple #[.agg (nuC (nn (nuC p.X) * nn (nuC (invF (nn (nuC p.Z)))) % pr)), .agg (nuC (nn (nuC p.Y) * nn (nuC (invF (nn (nuC p.Z)))) % pr))], ((((((((((((((True ∧ True) ∧ True) ∧ nuD.is (nuC p.Z)) ∧ ((nuC (invF (nn (nuC p.Z)))).all (fun v => v.oneCell') = true)) ∧ True) ∧ True) ∧ True) ∧ (nuD.is (nuC p.X) ∧ nuD.is (nuC (invF (nn (nuC p.Z)))))) ∧ True) ∧ True) ∧ True) ∧ (nuD.is (nuC p.Y) ∧ nuD.is (nuC (invF (nn (nuC p.Z)))))) ∧ ((nuC (nn (nuC p.X) * nn (nuC (invF (nn (nuC p.Z)))) % pr)).all (fun v => v.oneCell') = true)) ∧ ((nuC (nn (nuC p.Y) * nn (nuC (invF (nn (nuC p.Z)))) % pr)).all (fun v => v.oneCell') = true))) := by kernel_rfl
def raf_F (p : P3) : Value := .tuple #[.agg (nuC (nn (nuC p.X) * nn (nuC (invF (nn (nuC p.Z)))) % pr)), .agg (nuC (nn (nuC p.Y) * nn (nuC (invF (nn (nuC p.Z)))) % pr))]
set_option maxHeartbeats 4000000 in
theorem raf_p (p : P3) (hp : Nu3 p) : Pure Try.prog 22 #[.agg (rpC p)] (raf_F p) := by
  have ⟨hX, hY, hZ⟩ := hp
  unfold raf_F
  exact pure_of mixed Try.func22 _ (raf_0 p) rfl ⟨⟨⟨⟨⟨⟨⟨⟨⟨⟨⟨⟨⟨⟨trivial, trivial⟩, trivial⟩, (nuD.is_enc (hp.2.2))⟩, one_nu _⟩, trivial⟩, trivial⟩, trivial⟩, ⟨(nuD.is_enc (hp.1)), (nuD.is_enc (bd_inv _))⟩⟩, trivial⟩, trivial⟩, trivial⟩, ⟨(nuD.is_enc (hp.2.1)), (nuD.is_enc (bd_inv _))⟩⟩, one_nu _⟩, one_nu _⟩
def raf_S (p : P3) : Value := .tuple #[.agg (nuC (p.X * (invF (p.Z)) % pr)), .agg (nuC (p.Y * (invF (p.Z)) % pr))]
theorem raf_e (p : P3) (hp : Nu3 p) : raf_F p = raf_S p := by
  have ⟨hX, hY, hZ⟩ := hp
  unfold raf_F raf_S
  simp only [nm_mod, nn_mod, nm_inv, nn_inv, nm_d, nn_d, nm_1, nn_1, nm_root, nn_quo, nn_nuC _ hX, nn_nuC _ hY, nn_nuC _ hZ]
def num_h (i : Nat) : Hn := ⟨0, [], [], []⟩
theorem num_0 (A : Int) : evF (yty.en tab1) num_h Try.f11 [.agg (feC A)] [] = some (.agg (nuC (nm (feC A) % pr)), (((True ∧ True) ∧ feD.is (feC A)) ∧ ((nuC (nm (feC A) % pr)).all (fun v => v.oneCell') = true))) := by kernel_rfl
def num_F (A : Int) : Value := .agg (nuC (nm (feC A) % pr))
set_option maxHeartbeats 4000000 in
theorem num_p (A : Int) (hA : Ok A) : Pure Try.prog 11 #[.agg (feC A)] (num_F A) := by
  unfold num_F
  exact pure_of mixed Try.func11 _ (num_0 A) rfl ⟨⟨⟨trivial, trivial⟩, (feD.is_enc (hA))⟩, one_nu _⟩
def num_R (A : Int) : Int := A % pr
def num_S (A : Int) : Value := .agg (nuC (num_R A))
theorem num_e (A : Int) (hA : Ok A) : num_F A = num_S A := by
  unfold num_F num_S num_R
  simp only [nm_mod, nn_mod, nm_inv, nn_inv, nm_d, nn_d, nm_1, nn_1, nm_root, nn_quo, nm_feC _ hA]
def atT_h (i : Nat) : Hn := if i = 3 then ⟨12, [(0, true), (1, true), (4, true), (6, true), (2, false), (3, false), (5, false), (7, false), (8, false), (9, true), (10, true), (11, true)], [(13, false), (14, false)], []⟩ else ⟨0, [], [], []⟩
theorem atT_0 (y : Int) : evF (yty.en tab1) atT_h Try.f9 [.agg (feC y), .bool true] [some true, none, some true] = some (.tuple #[.agg (ptC (⟨0, 0, 0, 0⟩ : P4)), .bool false], ((((((((((((((((((((((((((((((((((((True ∧ True) ∧ True) ∧ True) ∧ (feD.is (feC y) ∧ feD.is (feC y))) ∧ ((feC (nm (feC y) * nm (feC y) % pr)).all (fun v => v.oneCell') = true)) ∧ (IntKind.u64 = IntKind.u64 ∧ w64 1)) ∧ ((feC 1).all (fun v => v.oneCell') = true)) ∧ True) ∧ True) ∧ True) ∧ True) ∧ (feD.is (feC (nm (feC y) * nm (feC y) % pr)) ∧ feD.is (feC 1))) ∧ True) ∧ (feD.is (feC dN) ∧ feD.is (feC (nm (feC y) * nm (feC y) % pr)))) ∧ (feD.is (feC (nm (feC dN) * nm (feC (nm (feC y) * nm (feC y) % pr)) % pr)) ∧ feD.is (feC 1))) ∧ (feD.is (feC ((nm (feC (nm (feC y) * nm (feC y) % pr)) - nm (feC 1)) % pr)) ∧ feD.is (feC ((nm (feC (nm (feC dN) * nm (feC (nm (feC y) * nm (feC y) % pr)) % pr)) + nm (feC 1)) % pr)))) ∧ True) ∧ True) ∧ (True ∧ (rootB (nm (feC ((nm (feC (nm (feC y) * nm (feC y) % pr)) - nm (feC 1)) % pr))) (nm (feC ((nm (feC (nm (feC dN) * nm (feC (nm (feC y) * nm (feC y) % pr)) % pr)) + nm (feC 1)) % pr)))) = true)) ∧ ((feC (rootV (nm (feC ((nm (feC (nm (feC y) * nm (feC y) % pr)) - nm (feC 1)) % pr))) (nm (feC ((nm (feC (nm (feC dN) * nm (feC (nm (feC y) * nm (feC y) % pr)) % pr)) + nm (feC 1)) % pr))))).all (fun v => v.oneCell') = true)) ∧ True) ∧ True) ∧ True) ∧ feD.is (feC (rootV (nm (feC ((nm (feC (nm (feC y) * nm (feC y) % pr)) - nm (feC 1)) % pr))) (nm (feC ((nm (feC (nm (feC dN) * nm (feC (nm (feC y) * nm (feC y) % pr)) % pr)) + nm (feC 1)) % pr)))))) ∧ ((feC (-(nm (feC (rootV (nm (feC ((nm (feC (nm (feC y) * nm (feC y) % pr)) - nm (feC 1)) % pr))) (nm (feC ((nm (feC (nm (feC dN) * nm (feC (nm (feC y) * nm (feC y) % pr)) % pr)) + nm (feC 1)) % pr)))))) % pr)).all (fun v => v.oneCell') = true)) ∧ True) ∧ True) ∧ True) ∧ True) ∧ feD.is (feC (-(nm (feC (rootV (nm (feC ((nm (feC (nm (feC y) * nm (feC y) % pr)) - nm (feC 1)) % pr))) (nm (feC ((nm (feC (nm (feC dN) * nm (feC (nm (feC y) * nm (feC y) % pr)) % pr)) + nm (feC 1)) % pr)))))) % pr))) ∧ True) ∧ (True ∧ (!((decide (nm (feC (-(nm (feC (rootV (nm (feC ((nm (feC (nm (feC y) * nm (feC y) % pr)) - nm (feC 1)) % pr))) (nm (feC ((nm (feC (nm (feC dN) * nm (feC (nm (feC y) * nm (feC y) % pr)) % pr)) + nm (feC 1)) % pr)))))) % pr)) % pr % 2 = 1)) == true)) = true)) ∧ True) ∧ True) ∧ ((ptC (⟨0, 0, 0, 0⟩ : P4)).all (fun v => v.oneCell') = true)) ∧ True)) := by kernel_rfl
theorem atT_1 (y : Int) : evF (yty.en tab1) atT_h Try.f9 [.agg (feC y), .bool true] [some true, none, some false] = some (.tuple #[.agg (ptC (ofP (nm (feC (-(nm (feC (rootV (nm (feC ((nm (feC (nm (feC y) * nm (feC y) % pr)) - nm (feC 1)) % pr))) (nm (feC ((nm (feC (nm (feC dN) * nm (feC (nm (feC y) * nm (feC y) % pr)) % pr)) + nm (feC 1)) % pr)))))) % pr))) (nm (feC y)))), .bool true], ((((((((((((((((((((((((((((((((((((((True ∧ True) ∧ True) ∧ True) ∧ (feD.is (feC y) ∧ feD.is (feC y))) ∧ ((feC (nm (feC y) * nm (feC y) % pr)).all (fun v => v.oneCell') = true)) ∧ (IntKind.u64 = IntKind.u64 ∧ w64 1)) ∧ ((feC 1).all (fun v => v.oneCell') = true)) ∧ True) ∧ True) ∧ True) ∧ True) ∧ (feD.is (feC (nm (feC y) * nm (feC y) % pr)) ∧ feD.is (feC 1))) ∧ True) ∧ (feD.is (feC dN) ∧ feD.is (feC (nm (feC y) * nm (feC y) % pr)))) ∧ (feD.is (feC (nm (feC dN) * nm (feC (nm (feC y) * nm (feC y) % pr)) % pr)) ∧ feD.is (feC 1))) ∧ (feD.is (feC ((nm (feC (nm (feC y) * nm (feC y) % pr)) - nm (feC 1)) % pr)) ∧ feD.is (feC ((nm (feC (nm (feC dN) * nm (feC (nm (feC y) * nm (feC y) % pr)) % pr)) + nm (feC 1)) % pr)))) ∧ True) ∧ True) ∧ (True ∧ (rootB (nm (feC ((nm (feC (nm (feC y) * nm (feC y) % pr)) - nm (feC 1)) % pr))) (nm (feC ((nm (feC (nm (feC dN) * nm (feC (nm (feC y) * nm (feC y) % pr)) % pr)) + nm (feC 1)) % pr)))) = true)) ∧ ((feC (rootV (nm (feC ((nm (feC (nm (feC y) * nm (feC y) % pr)) - nm (feC 1)) % pr))) (nm (feC ((nm (feC (nm (feC dN) * nm (feC (nm (feC y) * nm (feC y) % pr)) % pr)) + nm (feC 1)) % pr))))).all (fun v => v.oneCell') = true)) ∧ True) ∧ True) ∧ True) ∧ feD.is (feC (rootV (nm (feC ((nm (feC (nm (feC y) * nm (feC y) % pr)) - nm (feC 1)) % pr))) (nm (feC ((nm (feC (nm (feC dN) * nm (feC (nm (feC y) * nm (feC y) % pr)) % pr)) + nm (feC 1)) % pr)))))) ∧ ((feC (-(nm (feC (rootV (nm (feC ((nm (feC (nm (feC y) * nm (feC y) % pr)) - nm (feC 1)) % pr))) (nm (feC ((nm (feC (nm (feC dN) * nm (feC (nm (feC y) * nm (feC y) % pr)) % pr)) + nm (feC 1)) % pr)))))) % pr)).all (fun v => v.oneCell') = true)) ∧ True) ∧ True) ∧ True) ∧ True) ∧ feD.is (feC (-(nm (feC (rootV (nm (feC ((nm (feC (nm (feC y) * nm (feC y) % pr)) - nm (feC 1)) % pr))) (nm (feC ((nm (feC (nm (feC dN) * nm (feC (nm (feC y) * nm (feC y) % pr)) % pr)) + nm (feC 1)) % pr)))))) % pr))) ∧ True) ∧ (True ∧ (!((decide (nm (feC (-(nm (feC (rootV (nm (feC ((nm (feC (nm (feC y) * nm (feC y) % pr)) - nm (feC 1)) % pr))) (nm (feC ((nm (feC (nm (feC dN) * nm (feC (nm (feC y) * nm (feC y) % pr)) % pr)) + nm (feC 1)) % pr)))))) % pr)) % pr % 2 = 1)) == true)) = false)) ∧ True) ∧ True) ∧ True) ∧ (feD.is (feC (-(nm (feC (rootV (nm (feC ((nm (feC (nm (feC y) * nm (feC y) % pr)) - nm (feC 1)) % pr))) (nm (feC ((nm (feC (nm (feC dN) * nm (feC (nm (feC y) * nm (feC y) % pr)) % pr)) + nm (feC 1)) % pr)))))) % pr)) ∧ feD.is (feC y))) ∧ ((ptC (ofP (nm (feC (-(nm (feC (rootV (nm (feC ((nm (feC (nm (feC y) * nm (feC y) % pr)) - nm (feC 1)) % pr))) (nm (feC ((nm (feC (nm (feC dN) * nm (feC (nm (feC y) * nm (feC y) % pr)) % pr)) + nm (feC 1)) % pr)))))) % pr))) (nm (feC y)))).all (fun v => v.oneCell') = true)) ∧ True)) := by kernel_rfl
theorem atT_2 (y : Int) : evF (yty.en tab1) atT_h Try.f9 [.agg (feC y), .bool true] [some false] = some (.tuple #[.agg (ptC (⟨0, 0, 0, 0⟩ : P4)), .bool false], ((((((((((((((((((((((((((((((((True ∧ True) ∧ True) ∧ True) ∧ (feD.is (feC y) ∧ feD.is (feC y))) ∧ ((feC (nm (feC y) * nm (feC y) % pr)).all (fun v => v.oneCell') = true)) ∧ (IntKind.u64 = IntKind.u64 ∧ w64 1)) ∧ ((feC 1).all (fun v => v.oneCell') = true)) ∧ True) ∧ True) ∧ True) ∧ True) ∧ (feD.is (feC (nm (feC y) * nm (feC y) % pr)) ∧ feD.is (feC 1))) ∧ True) ∧ (feD.is (feC dN) ∧ feD.is (feC (nm (feC y) * nm (feC y) % pr)))) ∧ (feD.is (feC (nm (feC dN) * nm (feC (nm (feC y) * nm (feC y) % pr)) % pr)) ∧ feD.is (feC 1))) ∧ (feD.is (feC ((nm (feC (nm (feC y) * nm (feC y) % pr)) - nm (feC 1)) % pr)) ∧ feD.is (feC ((nm (feC (nm (feC dN) * nm (feC (nm (feC y) * nm (feC y) % pr)) % pr)) + nm (feC 1)) % pr)))) ∧ True) ∧ True) ∧ (True ∧ (rootB (nm (feC ((nm (feC (nm (feC y) * nm (feC y) % pr)) - nm (feC 1)) % pr))) (nm (feC ((nm (feC (nm (feC dN) * nm (feC (nm (feC y) * nm (feC y) % pr)) % pr)) + nm (feC 1)) % pr)))) = false)) ∧ ((feC (rootV (nm (feC ((nm (feC (nm (feC y) * nm (feC y) % pr)) - nm (feC 1)) % pr))) (nm (feC ((nm (feC (nm (feC dN) * nm (feC (nm (feC y) * nm (feC y) % pr)) % pr)) + nm (feC 1)) % pr))))).all (fun v => v.oneCell') = true)) ∧ True) ∧ True) ∧ True) ∧ feD.is (feC (rootV (nm (feC ((nm (feC (nm (feC y) * nm (feC y) % pr)) - nm (feC 1)) % pr))) (nm (feC ((nm (feC (nm (feC dN) * nm (feC (nm (feC y) * nm (feC y) % pr)) % pr)) + nm (feC 1)) % pr)))))) ∧ ((feC (-(nm (feC (rootV (nm (feC ((nm (feC (nm (feC y) * nm (feC y) % pr)) - nm (feC 1)) % pr))) (nm (feC ((nm (feC (nm (feC dN) * nm (feC (nm (feC y) * nm (feC y) % pr)) % pr)) + nm (feC 1)) % pr)))))) % pr)).all (fun v => v.oneCell') = true)) ∧ True) ∧ True) ∧ True) ∧ True) ∧ True) ∧ ((ptC (⟨0, 0, 0, 0⟩ : P4)).all (fun v => v.oneCell') = true)) ∧ True)) := by kernel_rfl
def atT_F (y : Int) : Value := cond (rootB (nm (feC ((nm (feC (nm (feC y) * nm (feC y) % pr)) - nm (feC 1)) % pr))) (nm (feC ((nm (feC (nm (feC dN) * nm (feC (nm (feC y) * nm (feC y) % pr)) % pr)) + nm (feC 1)) % pr)))) (cond (!((decide (nm (feC (-(nm (feC (rootV (nm (feC ((nm (feC (nm (feC y) * nm (feC y) % pr)) - nm (feC 1)) % pr))) (nm (feC ((nm (feC (nm (feC dN) * nm (feC (nm (feC y) * nm (feC y) % pr)) % pr)) + nm (feC 1)) % pr)))))) % pr)) % pr % 2 = 1)) == true)) (.tuple #[.agg (ptC (⟨0, 0, 0, 0⟩ : P4)), .bool false]) (.tuple #[.agg (ptC (ofP (nm (feC (-(nm (feC (rootV (nm (feC ((nm (feC (nm (feC y) * nm (feC y) % pr)) - nm (feC 1)) % pr))) (nm (feC ((nm (feC (nm (feC dN) * nm (feC (nm (feC y) * nm (feC y) % pr)) % pr)) + nm (feC 1)) % pr)))))) % pr))) (nm (feC y)))), .bool true])) (.tuple #[.agg (ptC (⟨0, 0, 0, 0⟩ : P4)), .bool false])
set_option maxHeartbeats 4000000 in
theorem atT_p (y : Int) (hy : Ok y) : Pure Try.prog 9 #[.agg (feC y), .bool true] (atT_F y) := by
  unfold atT_F
  cases h0 : (rootB (nm (feC ((nm (feC (nm (feC y) * nm (feC y) % pr)) - nm (feC 1)) % pr))) (nm (feC ((nm (feC (nm (feC dN) * nm (feC (nm (feC y) * nm (feC y) % pr)) % pr)) + nm (feC 1)) % pr))))
  · skip
    exact pure_of mixed Try.func9 _ (atT_2 y) rfl ⟨⟨⟨⟨⟨⟨⟨⟨⟨⟨⟨⟨⟨⟨⟨⟨⟨⟨⟨⟨⟨⟨⟨⟨⟨⟨⟨⟨⟨⟨⟨⟨trivial, trivial⟩, trivial⟩, trivial⟩, ⟨(feD.is_enc (hy)), (feD.is_enc (hy))⟩⟩, one_fe _⟩, ⟨rfl, ⟨by decide, by decide⟩⟩⟩, one_fe _⟩, trivial⟩, trivial⟩, trivial⟩, trivial⟩, ⟨(feD.is_enc (ok_mod _)), (feD.is_enc (show Ok 1 from ⟨by decide, by decide⟩))⟩⟩, trivial⟩, ⟨(feD.is_enc (ok_dN)), (feD.is_enc (ok_mod _))⟩⟩, ⟨(feD.is_enc (ok_mod _)), (feD.is_enc (show Ok 1 from ⟨by decide, by decide⟩))⟩⟩, ⟨(feD.is_enc (ok_mod _)), (feD.is_enc (ok_mod _))⟩⟩, trivial⟩, trivial⟩, ⟨trivial, h0⟩⟩, one_fe _⟩, trivial⟩, trivial⟩, trivial⟩, (feD.is_enc (ok_rootV _ _))⟩, one_fe _⟩, trivial⟩, trivial⟩, trivial⟩, trivial⟩, trivial⟩, ptC_one _⟩, trivial⟩
  · skip
    cases h2 : (!((decide (nm (feC (-(nm (feC (rootV (nm (feC ((nm (feC (nm (feC y) * nm (feC y) % pr)) - nm (feC 1)) % pr))) (nm (feC ((nm (feC (nm (feC dN) * nm (feC (nm (feC y) * nm (feC y) % pr)) % pr)) + nm (feC 1)) % pr)))))) % pr)) % pr % 2 = 1)) == true))
    · skip
      exact pure_of mixed Try.func9 _ (atT_1 y) rfl ⟨⟨⟨⟨⟨⟨⟨⟨⟨⟨⟨⟨⟨⟨⟨⟨⟨⟨⟨⟨⟨⟨⟨⟨⟨⟨⟨⟨⟨⟨⟨⟨⟨⟨⟨⟨⟨⟨trivial, trivial⟩, trivial⟩, trivial⟩, ⟨(feD.is_enc (hy)), (feD.is_enc (hy))⟩⟩, one_fe _⟩, ⟨rfl, ⟨by decide, by decide⟩⟩⟩, one_fe _⟩, trivial⟩, trivial⟩, trivial⟩, trivial⟩, ⟨(feD.is_enc (ok_mod _)), (feD.is_enc (show Ok 1 from ⟨by decide, by decide⟩))⟩⟩, trivial⟩, ⟨(feD.is_enc (ok_dN)), (feD.is_enc (ok_mod _))⟩⟩, ⟨(feD.is_enc (ok_mod _)), (feD.is_enc (show Ok 1 from ⟨by decide, by decide⟩))⟩⟩, ⟨(feD.is_enc (ok_mod _)), (feD.is_enc (ok_mod _))⟩⟩, trivial⟩, trivial⟩, ⟨trivial, h0⟩⟩, one_fe _⟩, trivial⟩, trivial⟩, trivial⟩, (feD.is_enc (ok_rootV _ _))⟩, one_fe _⟩, trivial⟩, trivial⟩, trivial⟩, trivial⟩, (feD.is_enc (ok_mod _))⟩, trivial⟩, ⟨trivial, h2⟩⟩, trivial⟩, trivial⟩, trivial⟩, ⟨(feD.is_enc (ok_mod _)), (feD.is_enc (hy))⟩⟩, ptC_one _⟩, trivial⟩
    · skip
      exact pure_of mixed Try.func9 _ (atT_0 y) rfl ⟨⟨⟨⟨⟨⟨⟨⟨⟨⟨⟨⟨⟨⟨⟨⟨⟨⟨⟨⟨⟨⟨⟨⟨⟨⟨⟨⟨⟨⟨⟨⟨⟨⟨⟨⟨trivial, trivial⟩, trivial⟩, trivial⟩, ⟨(feD.is_enc (hy)), (feD.is_enc (hy))⟩⟩, one_fe _⟩, ⟨rfl, ⟨by decide, by decide⟩⟩⟩, one_fe _⟩, trivial⟩, trivial⟩, trivial⟩, trivial⟩, ⟨(feD.is_enc (ok_mod _)), (feD.is_enc (show Ok 1 from ⟨by decide, by decide⟩))⟩⟩, trivial⟩, ⟨(feD.is_enc (ok_dN)), (feD.is_enc (ok_mod _))⟩⟩, ⟨(feD.is_enc (ok_mod _)), (feD.is_enc (show Ok 1 from ⟨by decide, by decide⟩))⟩⟩, ⟨(feD.is_enc (ok_mod _)), (feD.is_enc (ok_mod _))⟩⟩, trivial⟩, trivial⟩, ⟨trivial, h0⟩⟩, one_fe _⟩, trivial⟩, trivial⟩, trivial⟩, (feD.is_enc (ok_rootV _ _))⟩, one_fe _⟩, trivial⟩, trivial⟩, trivial⟩, trivial⟩, (feD.is_enc (ok_mod _))⟩, trivial⟩, ⟨trivial, h2⟩⟩, trivial⟩, trivial⟩, ptC_one _⟩, trivial⟩
def atT_S (y : Int) : Value := cond (rootB ((((y * y % pr) - 1) % pr)) ((((dN * (y * y % pr) % pr) + 1) % pr))) (cond (!((decide ((-((rootV ((((y * y % pr) - 1) % pr)) ((((dN * (y * y % pr) % pr) + 1) % pr)))) % pr) % pr % 2 = 1)) == true)) (.tuple #[.agg (ptC (⟨0, 0, 0, 0⟩ : P4)), .bool false]) (.tuple #[.agg (ptC (ofP ((-((rootV ((((y * y % pr) - 1) % pr)) ((((dN * (y * y % pr) % pr) + 1) % pr)))) % pr)) (y))), .bool true])) (.tuple #[.agg (ptC (⟨0, 0, 0, 0⟩ : P4)), .bool false])
theorem atT_e (y : Int) (hy : Ok y) : atT_F y = atT_S y := by
  unfold atT_F atT_S
  simp only [nm_mod, nn_mod, nm_inv, nn_inv, nm_d, nn_d, nm_1, nn_1, nm_root, nn_quo, nm_feC _ hy]
def atN_h (i : Nat) : Hn := if i = 3 then ⟨12, [(0, true), (1, true), (4, true), (6, true), (2, false), (3, false), (5, false), (7, false), (8, false), (9, true), (10, true), (11, true)], [(13, false), (14, false)], []⟩ else ⟨0, [], [], []⟩
theorem atN_0 (y : Int) : evF (yty.en tab1) atN_h Try.f9 [.agg (feC y), .bool false] [some true, none, some true] = some (.tuple #[.agg (ptC (⟨0, 0, 0, 0⟩ : P4)), .bool false], (((((((((((((((((((((((((((((((((True ∧ True) ∧ True) ∧ True) ∧ (feD.is (feC y) ∧ feD.is (feC y))) ∧ ((feC (nm (feC y) * nm (feC y) % pr)).all (fun v => v.oneCell') = true)) ∧ (IntKind.u64 = IntKind.u64 ∧ w64 1)) ∧ ((feC 1).all (fun v => v.oneCell') = true)) ∧ True) ∧ True) ∧ True) ∧ True) ∧ (feD.is (feC (nm (feC y) * nm (feC y) % pr)) ∧ feD.is (feC 1))) ∧ True) ∧ (feD.is (feC dN) ∧ feD.is (feC (nm (feC y) * nm (feC y) % pr)))) ∧ (feD.is (feC (nm (feC dN) * nm (feC (nm (feC y) * nm (feC y) % pr)) % pr)) ∧ feD.is (feC 1))) ∧ (feD.is (feC ((nm (feC (nm (feC y) * nm (feC y) % pr)) - nm (feC 1)) % pr)) ∧ feD.is (feC ((nm (feC (nm (feC dN) * nm (feC (nm (feC y) * nm (feC y) % pr)) % pr)) + nm (feC 1)) % pr)))) ∧ True) ∧ True) ∧ (True ∧ (rootB (nm (feC ((nm (feC (nm (feC y) * nm (feC y) % pr)) - nm (feC 1)) % pr))) (nm (feC ((nm (feC (nm (feC dN) * nm (feC (nm (feC y) * nm (feC y) % pr)) % pr)) + nm (feC 1)) % pr)))) = true)) ∧ ((feC (rootV (nm (feC ((nm (feC (nm (feC y) * nm (feC y) % pr)) - nm (feC 1)) % pr))) (nm (feC ((nm (feC (nm (feC dN) * nm (feC (nm (feC y) * nm (feC y) % pr)) % pr)) + nm (feC 1)) % pr))))).all (fun v => v.oneCell') = true)) ∧ True) ∧ True) ∧ True) ∧ True) ∧ True) ∧ True) ∧ feD.is (feC (rootV (nm (feC ((nm (feC (nm (feC y) * nm (feC y) % pr)) - nm (feC 1)) % pr))) (nm (feC ((nm (feC (nm (feC dN) * nm (feC (nm (feC y) * nm (feC y) % pr)) % pr)) + nm (feC 1)) % pr)))))) ∧ True) ∧ (True ∧ (!((decide (nm (feC (rootV (nm (feC ((nm (feC (nm (feC y) * nm (feC y) % pr)) - nm (feC 1)) % pr))) (nm (feC ((nm (feC (nm (feC dN) * nm (feC (nm (feC y) * nm (feC y) % pr)) % pr)) + nm (feC 1)) % pr))))) % pr % 2 = 1)) == false)) = true)) ∧ True) ∧ True) ∧ ((ptC (⟨0, 0, 0, 0⟩ : P4)).all (fun v => v.oneCell') = true)) ∧ True)) := by kernel_rfl
theorem atN_1 (y : Int) : evF (yty.en tab1) atN_h Try.f9 [.agg (feC y), .bool false] [some true, none, some false] = some (.tuple #[.agg (ptC (ofP (nm (feC (rootV (nm (feC ((nm (feC (nm (feC y) * nm (feC y) % pr)) - nm (feC 1)) % pr))) (nm (feC ((nm (feC (nm (feC dN) * nm (feC (nm (feC y) * nm (feC y) % pr)) % pr)) + nm (feC 1)) % pr)))))) (nm (feC y)))), .bool true], (((((((((((((((((((((((((((((((((((True ∧ True) ∧ True) ∧ True) ∧ (feD.is (feC y) ∧ feD.is (feC y))) ∧ ((feC (nm (feC y) * nm (feC y) % pr)).all (fun v => v.oneCell') = true)) ∧ (IntKind.u64 = IntKind.u64 ∧ w64 1)) ∧ ((feC 1).all (fun v => v.oneCell') = true)) ∧ True) ∧ True) ∧ True) ∧ True) ∧ (feD.is (feC (nm (feC y) * nm (feC y) % pr)) ∧ feD.is (feC 1))) ∧ True) ∧ (feD.is (feC dN) ∧ feD.is (feC (nm (feC y) * nm (feC y) % pr)))) ∧ (feD.is (feC (nm (feC dN) * nm (feC (nm (feC y) * nm (feC y) % pr)) % pr)) ∧ feD.is (feC 1))) ∧ (feD.is (feC ((nm (feC (nm (feC y) * nm (feC y) % pr)) - nm (feC 1)) % pr)) ∧ feD.is (feC ((nm (feC (nm (feC dN) * nm (feC (nm (feC y) * nm (feC y) % pr)) % pr)) + nm (feC 1)) % pr)))) ∧ True) ∧ True) ∧ (True ∧ (rootB (nm (feC ((nm (feC (nm (feC y) * nm (feC y) % pr)) - nm (feC 1)) % pr))) (nm (feC ((nm (feC (nm (feC dN) * nm (feC (nm (feC y) * nm (feC y) % pr)) % pr)) + nm (feC 1)) % pr)))) = true)) ∧ ((feC (rootV (nm (feC ((nm (feC (nm (feC y) * nm (feC y) % pr)) - nm (feC 1)) % pr))) (nm (feC ((nm (feC (nm (feC dN) * nm (feC (nm (feC y) * nm (feC y) % pr)) % pr)) + nm (feC 1)) % pr))))).all (fun v => v.oneCell') = true)) ∧ True) ∧ True) ∧ True) ∧ True) ∧ True) ∧ True) ∧ feD.is (feC (rootV (nm (feC ((nm (feC (nm (feC y) * nm (feC y) % pr)) - nm (feC 1)) % pr))) (nm (feC ((nm (feC (nm (feC dN) * nm (feC (nm (feC y) * nm (feC y) % pr)) % pr)) + nm (feC 1)) % pr)))))) ∧ True) ∧ (True ∧ (!((decide (nm (feC (rootV (nm (feC ((nm (feC (nm (feC y) * nm (feC y) % pr)) - nm (feC 1)) % pr))) (nm (feC ((nm (feC (nm (feC dN) * nm (feC (nm (feC y) * nm (feC y) % pr)) % pr)) + nm (feC 1)) % pr))))) % pr % 2 = 1)) == false)) = false)) ∧ True) ∧ True) ∧ True) ∧ (feD.is (feC (rootV (nm (feC ((nm (feC (nm (feC y) * nm (feC y) % pr)) - nm (feC 1)) % pr))) (nm (feC ((nm (feC (nm (feC dN) * nm (feC (nm (feC y) * nm (feC y) % pr)) % pr)) + nm (feC 1)) % pr))))) ∧ feD.is (feC y))) ∧ ((ptC (ofP (nm (feC (rootV (nm (feC ((nm (feC (nm (feC y) * nm (feC y) % pr)) - nm (feC 1)) % pr))) (nm (feC ((nm (feC (nm (feC dN) * nm (feC (nm (feC y) * nm (feC y) % pr)) % pr)) + nm (feC 1)) % pr)))))) (nm (feC y)))).all (fun v => v.oneCell') = true)) ∧ True)) := by kernel_rfl
theorem atN_2 (y : Int) : evF (yty.en tab1) atN_h Try.f9 [.agg (feC y), .bool false] [some false] = some (.tuple #[.agg (ptC (⟨0, 0, 0, 0⟩ : P4)), .bool false], (((((((((((((((((((((((((((((True ∧ True) ∧ True) ∧ True) ∧ (feD.is (feC y) ∧ feD.is (feC y))) ∧ ((feC (nm (feC y) * nm (feC y) % pr)).all (fun v => v.oneCell') = true)) ∧ (IntKind.u64 = IntKind.u64 ∧ w64 1)) ∧ ((feC 1).all (fun v => v.oneCell') = true)) ∧ True) ∧ True) ∧ True) ∧ True) ∧ (feD.is (feC (nm (feC y) * nm (feC y) % pr)) ∧ feD.is (feC 1))) ∧ True) ∧ (feD.is (feC dN) ∧ feD.is (feC (nm (feC y) * nm (feC y) % pr)))) ∧ (feD.is (feC (nm (feC dN) * nm (feC (nm (feC y) * nm (feC y) % pr)) % pr)) ∧ feD.is (feC 1))) ∧ (feD.is (feC ((nm (feC (nm (feC y) * nm (feC y) % pr)) - nm (feC 1)) % pr)) ∧ feD.is (feC ((nm (feC (nm (feC dN) * nm (feC (nm (feC y) * nm (feC y) % pr)) % pr)) + nm (feC 1)) % pr)))) ∧ True) ∧ True) ∧ (True ∧ (rootB (nm (feC ((nm (feC (nm (feC y) * nm (feC y) % pr)) - nm (feC 1)) % pr))) (nm (feC ((nm (feC (nm (feC dN) * nm (feC (nm (feC y) * nm (feC y) % pr)) % pr)) + nm (feC 1)) % pr)))) = false)) ∧ ((feC (rootV (nm (feC ((nm (feC (nm (feC y) * nm (feC y) % pr)) - nm (feC 1)) % pr))) (nm (feC ((nm (feC (nm (feC dN) * nm (feC (nm (feC y) * nm (feC y) % pr)) % pr)) + nm (feC 1)) % pr))))).all (fun v => v.oneCell') = true)) ∧ True) ∧ True) ∧ True) ∧ True) ∧ True) ∧ True) ∧ True) ∧ ((ptC (⟨0, 0, 0, 0⟩ : P4)).all (fun v => v.oneCell') = true)) ∧ True)) := by kernel_rfl
def atN_F (y : Int) : Value := cond (rootB (nm (feC ((nm (feC (nm (feC y) * nm (feC y) % pr)) - nm (feC 1)) % pr))) (nm (feC ((nm (feC (nm (feC dN) * nm (feC (nm (feC y) * nm (feC y) % pr)) % pr)) + nm (feC 1)) % pr)))) (cond (!((decide (nm (feC (rootV (nm (feC ((nm (feC (nm (feC y) * nm (feC y) % pr)) - nm (feC 1)) % pr))) (nm (feC ((nm (feC (nm (feC dN) * nm (feC (nm (feC y) * nm (feC y) % pr)) % pr)) + nm (feC 1)) % pr))))) % pr % 2 = 1)) == false)) (.tuple #[.agg (ptC (⟨0, 0, 0, 0⟩ : P4)), .bool false]) (.tuple #[.agg (ptC (ofP (nm (feC (rootV (nm (feC ((nm (feC (nm (feC y) * nm (feC y) % pr)) - nm (feC 1)) % pr))) (nm (feC ((nm (feC (nm (feC dN) * nm (feC (nm (feC y) * nm (feC y) % pr)) % pr)) + nm (feC 1)) % pr)))))) (nm (feC y)))), .bool true])) (.tuple #[.agg (ptC (⟨0, 0, 0, 0⟩ : P4)), .bool false])
set_option maxHeartbeats 4000000 in
theorem atN_p (y : Int) (hy : Ok y) : Pure Try.prog 9 #[.agg (feC y), .bool false] (atN_F y) := by
  unfold atN_F
  cases h0 : (rootB (nm (feC ((nm (feC (nm (feC y) * nm (feC y) % pr)) - nm (feC 1)) % pr))) (nm (feC ((nm (feC (nm (feC dN) * nm (feC (nm (feC y) * nm (feC y) % pr)) % pr)) + nm (feC 1)) % pr))))
  · skip
    exact pure_of mixed Try.func9 _ (atN_2 y) rfl ⟨⟨⟨⟨⟨⟨⟨⟨⟨⟨⟨⟨⟨⟨⟨⟨⟨⟨⟨⟨⟨⟨⟨⟨⟨⟨⟨⟨⟨trivial, trivial⟩, trivial⟩, trivial⟩, ⟨(feD.is_enc (hy)), (feD.is_enc (hy))⟩⟩, one_fe _⟩, ⟨rfl, ⟨by decide, by decide⟩⟩⟩, one_fe _⟩, trivial⟩, trivial⟩, trivial⟩, trivial⟩, ⟨(feD.is_enc (ok_mod _)), (feD.is_enc (show Ok 1 from ⟨by decide, by decide⟩))⟩⟩, trivial⟩, ⟨(feD.is_enc (ok_dN)), (feD.is_enc (ok_mod _))⟩⟩, ⟨(feD.is_enc (ok_mod _)), (feD.is_enc (show Ok 1 from ⟨by decide, by decide⟩))⟩⟩, ⟨(feD.is_enc (ok_mod _)), (feD.is_enc (ok_mod _))⟩⟩, trivial⟩, trivial⟩, ⟨trivial, h0⟩⟩, one_fe _⟩, trivial⟩, trivial⟩, trivial⟩, trivial⟩, trivial⟩, trivial⟩, trivial⟩, ptC_one _⟩, trivial⟩
  · skip
    cases h2 : (!((decide (nm (feC (rootV (nm (feC ((nm (feC (nm (feC y) * nm (feC y) % pr)) - nm (feC 1)) % pr))) (nm (feC ((nm (feC (nm (feC dN) * nm (feC (nm (feC y) * nm (feC y) % pr)) % pr)) + nm (feC 1)) % pr))))) % pr % 2 = 1)) == false))
    · skip
      exact pure_of mixed Try.func9 _ (atN_1 y) rfl ⟨⟨⟨⟨⟨⟨⟨⟨⟨⟨⟨⟨⟨⟨⟨⟨⟨⟨⟨⟨⟨⟨⟨⟨⟨⟨⟨⟨⟨⟨⟨⟨⟨⟨⟨trivial, trivial⟩, trivial⟩, trivial⟩, ⟨(feD.is_enc (hy)), (feD.is_enc (hy))⟩⟩, one_fe _⟩, ⟨rfl, ⟨by decide, by decide⟩⟩⟩, one_fe _⟩, trivial⟩, trivial⟩, trivial⟩, trivial⟩, ⟨(feD.is_enc (ok_mod _)), (feD.is_enc (show Ok 1 from ⟨by decide, by decide⟩))⟩⟩, trivial⟩, ⟨(feD.is_enc (ok_dN)), (feD.is_enc (ok_mod _))⟩⟩, ⟨(feD.is_enc (ok_mod _)), (feD.is_enc (show Ok 1 from ⟨by decide, by decide⟩))⟩⟩, ⟨(feD.is_enc (ok_mod _)), (feD.is_enc (ok_mod _))⟩⟩, trivial⟩, trivial⟩, ⟨trivial, h0⟩⟩, one_fe _⟩, trivial⟩, trivial⟩, trivial⟩, trivial⟩, trivial⟩, trivial⟩, (feD.is_enc (ok_rootV _ _))⟩, trivial⟩, ⟨trivial, h2⟩⟩, trivial⟩, trivial⟩, trivial⟩, ⟨(feD.is_enc (ok_rootV _ _)), (feD.is_enc (hy))⟩⟩, ptC_one _⟩, trivial⟩
    · skip
      exact pure_of mixed Try.func9 _ (atN_0 y) rfl ⟨⟨⟨⟨⟨⟨⟨⟨⟨⟨⟨⟨⟨⟨⟨⟨⟨⟨⟨⟨⟨⟨⟨⟨⟨⟨⟨⟨⟨⟨⟨⟨⟨trivial, trivial⟩, trivial⟩, trivial⟩, ⟨(feD.is_enc (hy)), (feD.is_enc (hy))⟩⟩, one_fe _⟩, ⟨rfl, ⟨by decide, by decide⟩⟩⟩, one_fe _⟩, trivial⟩, trivial⟩, trivial⟩, trivial⟩, ⟨(feD.is_enc (ok_mod _)), (feD.is_enc (show Ok 1 from ⟨by decide, by decide⟩))⟩⟩, trivial⟩, ⟨(feD.is_enc (ok_dN)), (feD.is_enc (ok_mod _))⟩⟩, ⟨(feD.is_enc (ok_mod _)), (feD.is_enc (show Ok 1 from ⟨by decide, by decide⟩))⟩⟩, ⟨(feD.is_enc (ok_mod _)), (feD.is_enc (ok_mod _))⟩⟩, trivial⟩, trivial⟩, ⟨trivial, h0⟩⟩, one_fe _⟩, trivial⟩, trivial⟩, trivial⟩, trivial⟩, trivial⟩, trivial⟩, (feD.is_enc (ok_rootV _ _))⟩, trivial⟩, ⟨trivial, h2⟩⟩, trivial⟩, trivial⟩, ptC_one _⟩, trivial⟩
def atN_S (y : Int) : Value := cond (rootB ((((y * y % pr) - 1) % pr)) ((((dN * (y * y % pr) % pr) + 1) % pr))) (cond (!((decide ((rootV ((((y * y % pr) - 1) % pr)) ((((dN * (y * y % pr) % pr) + 1) % pr))) % pr % 2 = 1)) == false)) (.tuple #[.agg (ptC (⟨0, 0, 0, 0⟩ : P4)), .bool false]) (.tuple #[.agg (ptC (ofP ((rootV ((((y * y % pr) - 1) % pr)) ((((dN * (y * y % pr) % pr) + 1) % pr)))) (y))), .bool true])) (.tuple #[.agg (ptC (⟨0, 0, 0, 0⟩ : P4)), .bool false])
theorem atN_e (y : Int) (hy : Ok y) : atN_F y = atN_S y := by
  unfold atN_F atN_S
  simp only [nm_mod, nn_mod, nm_inv, nn_inv, nm_d, nn_d, nm_1, nn_1, nm_root, nn_quo, nm_feC _ hy]
end Go.Proofs.Ytpmplilhifkeaaa

set_option linter.unusedSimpArgs false
set_option linter.unusedVariables false
namespace Go.Proofs.Ytpmplilhifkeaaa
open Go.RowKit Go.Ev
/-- What On asks. -/
abbrev onQ (p : P4) : Prop := ¬ p.Z % pr = 0 ∧ p.X * p.Y % pr = p.Z * p.T % pr ∧ (p.Y * p.Y - p.X * p.X) % pr = (p.Z * p.Z + dN * (p.T * p.T)) % pr
theorem on_lr (p : P4) : ((p.Y * p.Y % pr - p.X * p.X % pr) % pr % pr = (p.Z * p.Z % pr + dN * (p.T * p.T % pr) % pr) % pr % pr) = ((p.Y * p.Y - p.X * p.X) % pr = (p.Z * p.Z + dN * (p.T * p.T)) % pr) := by
  rw [emm, emm, esl, esr, eal, ear, ← ear _ (dN * (p.T * p.T % pr)), emr, ear]
theorem on_s (p : P4) : on_S p = .bool (decide (onQ p)) := by
  unfold on_S
  by_cases h0 : p.Z % pr = 0
  · rw [decide_eq_true (show p.Z % pr = 0 % pr by rw [h0]; rfl), decide_eq_false (fun h : onQ p => h.1 h0)]; rfl
  · rw [decide_eq_false (show ¬ p.Z % pr = 0 % pr from h0)]
    by_cases h1 : p.X * p.Y % pr = p.Z * p.T % pr
    · rw [decide_eq_true (show p.X * p.Y % pr % pr = p.Z * p.T % pr % pr by rw [emm, emm]; exact h1)]
      show Value.bool (decide _) = _
      congr 1
      rw [decide_eq_decide, on_lr]
      exact ⟨fun h => ⟨h0, h1, h⟩, fun h => h.2.2⟩
    · rw [decide_eq_false (show ¬ p.X * p.Y % pr % pr = p.Z * p.T % pr % pr by rw [emm, emm]; exact h1), decide_eq_false (fun h : onQ p => h1 h.2.1)]; rfl
theorem EdOn_c (p : P4) (hp : Ok4 p) : Pure Try.prog 16 #[.agg (ptC p)] (.bool (decide (onQ p))) := by
  have := on_p p hp
  rwa [on_e p hp, on_s] at this
def afX (p : P4) : Int := if p.Z % pr = 0 then 0 else p.X * invF p.Z % pr
def afY (p : P4) : Int := if p.Z % pr = 0 then 0 else p.Y * invF p.Z % pr
theorem EdAffine_c (p : P4) (hp : Ok4 p) : Pure Try.prog 20 #[.agg (ptC p)] (.tuple #[.agg (feC (afX p)), .agg (feC (afY p)), .bool (decide (¬ p.Z % pr = 0))]) := by
  have h := af_p p hp
  rw [af_e p hp] at h
  unfold af_S at h
  unfold afX afY
  by_cases h0 : p.Z % pr = 0
  · rw [decide_eq_true (show p.Z % pr = 0 % pr by rw [h0]; rfl)] at h
    rw [if_pos h0, if_pos h0, decide_eq_false (fun h => h h0)]
    exact h
  · rw [decide_eq_false (show ¬ p.Z % pr = 0 % pr from h0)] at h
    rw [if_neg h0, if_neg h0, decide_eq_true h0]
    exact h
theorem d_inv : -121665 % pr * invF 121666 % pr = dN := by
  have h1 : -121665 % pr = 121666 * dN % pr := by decide
  have h2 := inv_ok 121666 (by decide)
  rw [h1, eml, show 121666 * dN * invF 121666 = dN * (121666 * invF 121666) by grind, ← emr, h2]
  decide
theorem RD_c : Pure Try.prog 46 #[] (.agg (nuC dN)) := by
  have h := rd_p
  rw [rd_e] at h
  unfold rd_S rd_R at h
  rwa [show -(121665 : Int) % pr * invF 121666 % pr = dN from d_inv] at h
theorem RId_c : Pure Try.prog 15 #[] (.agg (rpC ⟨0, 1, 1⟩)) := rid_p
def pOn : Entry Try.prog := ent1 Try.func16 (by kernel_rfl) (by kernel_rfl) ptD (fun p => .bool (decide (onQ p))) EdOn_c
def pAffine : Entry Try.prog := ent1 Try.func20 (by kernel_rfl) (by kernel_rfl) ptD (fun p => .tuple #[.agg (feC (afX p)), .agg (feC (afY p)), .bool (decide (¬ p.Z % pr = 0))]) EdAffine_c
def qD : Entry Try.prog := ent0 Try.func46 (by kernel_rfl) (by kernel_rfl) (.agg (nuC dN)) RD_c
def qId : Entry Try.prog := ent0 Try.func15 (by kernel_rfl) (by kernel_rfl) (.agg (rpC ⟨0, 1, 1⟩)) RId_c
def lNum : Entry Try.prog := ent1 Try.func11 (by kernel_rfl) (by kernel_rfl) feD (fun A : Int => .agg (nuC (A % pr))) (fun A hA => by have h := num_p A hA; rwa [num_e A hA] at h)
/-- The x, and whether there is one. -/
def atU (y : Int) : Int := (y * y % pr - 1) % pr
def atV (y : Int) : Int := (dN * (y * y % pr) % pr + 1) % pr
def atX (y : Int) (o : Bool) : Int := cond o (-(rootV (atU y) (atV y)) % pr) (rootV (atU y) (atV y))
def atB (y : Int) (o : Bool) : Bool := rootB (atU y) (atV y) && (decide (atX y o % pr % 2 = 1) == o)
def atP (y : Int) (o : Bool) : P4 := cond (atB y o) (ofP (atX y o) y) ⟨0, 0, 0, 0⟩
theorem EdAt_c (y : Int) (o : Bool) (hy : Ok y) : Pure Try.prog 9 #[.agg (feC y), .bool o] (.tuple #[.agg (ptC (atP y o)), .bool (atB y o)]) := by
  cases o with
  | true =>
    have h := atT_p y hy
    rw [atT_e y hy] at h
    unfold atT_S at h
    unfold atP atB
    show Pure _ _ _ (.tuple #[.agg (ptC (cond (rootB (atU y) (atV y) && (decide (-(rootV (atU y) (atV y)) % pr % pr % 2 = 1) == true)) (ofP (-(rootV (atU y) (atV y)) % pr) y) _)), .bool (rootB (atU y) (atV y) && (decide (-(rootV (atU y) (atV y)) % pr % pr % 2 = 1) == true))])
    unfold atU atV
    cases h0 : rootB ((y * y % pr - 1) % pr) ((dN * (y * y % pr) % pr + 1) % pr) with
    | false => rw [h0] at h; exact h
    | true =>
      rw [h0] at h
      cases h1 : decide (-(rootV ((y * y % pr - 1) % pr) ((dN * (y * y % pr) % pr + 1) % pr)) % pr % pr % 2 = 1) with
      | false => rw [h1] at h; exact h
      | true => rw [h1] at h; exact h
  | false =>
    have h := atN_p y hy
    rw [atN_e y hy] at h
    unfold atN_S at h
    unfold atP atB
    show Pure _ _ _ (.tuple #[.agg (ptC (cond (rootB (atU y) (atV y) && (decide (rootV (atU y) (atV y) % pr % 2 = 1) == false)) (ofP (rootV (atU y) (atV y)) y) _)), .bool (rootB (atU y) (atV y) && (decide (rootV (atU y) (atV y) % pr % 2 = 1) == false))])
    unfold atU atV
    cases h0 : rootB ((y * y % pr - 1) % pr) ((dN * (y * y % pr) % pr + 1) % pr) with
    | false => rw [h0] at h; exact h
    | true =>
      rw [h0] at h
      cases h1 : decide (rootV ((y * y % pr - 1) % pr) ((dN * (y * y % pr) % pr + 1) % pr) % pr % 2 = 1) with
      | false => rw [h1] at h; exact h
      | true => rw [h1] at h; exact h
def pAt : Entry Try.prog := ent1b Try.func9 (by kernel_rfl) (by kernel_rfl) feD (fun (y : Int) o => .tuple #[.agg (ptC (atP y o)), .bool (atB y o)]) (fun y o hy => EdAt_c y o hy)
end Go.Proofs.Ytpmplilhifkeaaa

set_option linter.unusedSimpArgs false
set_option linter.unusedVariables false
namespace Go.Proofs.Ytpmplilhifkeaaa
open Go.RowKit Go.Ev
theorem nu3_ab (p q : P3) (d : Int) : Nu3 (rab_R p q d) := ⟨mod_bd _, mod_bd _, mod_bd _⟩
theorem RAddBy_c (p q : P3) (d : Int) (hp : Nu3 p) (hq : Nu3 q) (hd : 0 ≤ d ∧ d < pr) : Pure Try.prog 58 #[.agg (rpC p), .agg (rpC q), .agg (nuC d)] (.agg (rpC (rab_R p q d))) := by
  have h := rab_p p q d hp hq hd
  rwa [rab_e p q d hp hq hd] at h
def qAddBy : Entry Try.prog := ent3 Try.func58 (by kernel_rfl) (by kernel_rfl) rpD rpD nuD (fun p q (d : Int) => .agg (rpC (rab_R p q d))) RAddBy_c
theorem nu3_ng (p : P3) (h : Nu3 p) : Nu3 (rng_R p) := ⟨mod_bd _, h.2.1, h.2.2⟩
theorem RNegP_c (p : P3) (hp : Nu3 p) : Pure Try.prog 28 #[.agg (rpC p)] (.agg (rpC (rng_R p))) := by
  have h := rng_p p hp
  rwa [rng_e p hp] at h
theorem nu3_ngD {p : P3} (h : Nu3 p) : Nu3 (rng_R (dr (rpC p))) := by rw [dr_rpC p h]; exact nu3_ng p h
def qNeg : Entry Try.prog := ent1 Try.func28 (by kernel_rfl) (by kernel_rfl) rpD (fun p => .agg (rpC (rng_R p))) RNegP_c
def rsmB (p q : P3) : Bool := cond (decide (p.X * q.Z % pr = q.X * p.Z % pr)) (decide (p.Y * q.Z % pr = q.Y * p.Z % pr)) false
theorem RSameP_c (p q : P3) (hp : Nu3 p) (hq : Nu3 q) : Pure Try.prog 19 #[.agg (rpC p), .agg (rpC q)] (.bool (rsmB p q)) := by
  have h := rsm_p p q hp hq
  rw [rsm_e p q hp hq] at h
  unfold rsm_S at h
  unfold rsmB
  cases h0 : decide (p.X * q.Z % pr = q.X * p.Z % pr) with
  | false => rw [h0] at h; exact h
  | true => rw [h0] at h; exact h
def qSame : Entry Try.prog := ent2 Try.func19 (by kernel_rfl) (by kernel_rfl) rpD rpD (fun p q => .bool (rsmB p q)) RSameP_c
def rafX (p : P3) : Int := p.X * invF p.Z % pr
def rafY (p : P3) : Int := p.Y * invF p.Z % pr
theorem RAffine_c (p : P3) (hp : Nu3 p) : Pure Try.prog 22 #[.agg (rpC p)] (.tuple #[.agg (nuC (rafX p)), .agg (nuC (rafY p))]) := by
  have h := raf_p p hp
  rwa [raf_e p hp] at h
def qAffine : Entry Try.prog := ent1 Try.func22 (by kernel_rfl) (by kernel_rfl) rpD (fun p => .tuple #[.agg (nuC (rafX p)), .agg (nuC (rafY p))]) RAffine_c
def tab2 : List (Entry Try.prog) := pOn :: pAffine :: qD :: qId :: lNum :: pAt :: qAddBy :: qNeg :: qSame :: qAffine :: tab1
def rat_h (i : Nat) : Hn := if i = 2 then ⟨4, [], [], []⟩ else if i = 3 then ⟨6, [], [], []⟩ else if i = 9 then ⟨4, [], [], []⟩ else ⟨0, [], [], []⟩
theorem rat_0 (y : Int) : evF (yty.en tab2) rat_h Try.f10 [.agg (nuC y), .bool true] [some true, some true] = some (.tuple #[.agg (rpC (⟨0, 0, 0⟩ : P3)), .bool false], (((((((((((((((((((((((((((((((((((True ∧ True) ∧ True) ∧ True) ∧ (nuD.is (nuC y) ∧ nuD.is (nuC y))) ∧ ((nuC (nn (nuC y) * nn (nuC y) % pr)).all (fun v => v.oneCell') = true)) ∧ True) ∧ (IntKind.u64 = IntKind.u64 ∧ w64 1)) ∧ (nuD.is (nuC (nn (nuC y) * nn (nuC y) % pr)) ∧ nuD.is (nuC 1))) ∧ ((nuC ((nn (nuC (nn (nuC y) * nn (nuC y) % pr)) - nn (nuC 1)) % pr)).all (fun v => v.oneCell') = true)) ∧ True) ∧ True) ∧ (nuD.is (nuC dN) ∧ nuD.is (nuC (nn (nuC y) * nn (nuC y) % pr)))) ∧ (IntKind.u64 = IntKind.u64 ∧ w64 1)) ∧ (nuD.is (nuC (nn (nuC dN) * nn (nuC (nn (nuC y) * nn (nuC y) % pr)) % pr)) ∧ nuD.is (nuC 1))) ∧ ((nuC ((nn (nuC (nn (nuC dN) * nn (nuC (nn (nuC y) * nn (nuC y) % pr)) % pr)) + nn (nuC 1)) % pr)).all (fun v => v.oneCell') = true)) ∧ True) ∧ True) ∧ (nuD.is (nuC ((nn (nuC (nn (nuC y) * nn (nuC y) % pr)) - nn (nuC 1)) % pr)) ∧ nuD.is (nuC ((nn (nuC (nn (nuC dN) * nn (nuC (nn (nuC y) * nn (nuC y) % pr)) % pr)) + nn (nuC 1)) % pr)))) ∧ True) ∧ True) ∧ (True ∧ (quoB (nn (nuC ((nn (nuC (nn (nuC y) * nn (nuC y) % pr)) - nn (nuC 1)) % pr))) (nn (nuC ((nn (nuC (nn (nuC dN) * nn (nuC (nn (nuC y) * nn (nuC y) % pr)) % pr)) + nn (nuC 1)) % pr)))) = true)) ∧ ((nuC (quoV (nn (nuC ((nn (nuC (nn (nuC y) * nn (nuC y) % pr)) - nn (nuC 1)) % pr))) (nn (nuC ((nn (nuC (nn (nuC dN) * nn (nuC (nn (nuC y) * nn (nuC y) % pr)) % pr)) + nn (nuC 1)) % pr))))).all (fun v => v.oneCell') = true)) ∧ True) ∧ True) ∧ True) ∧ True) ∧ True) ∧ True) ∧ True) ∧ (nuD.is (nuC (quoV (nn (nuC ((nn (nuC (nn (nuC y) * nn (nuC y) % pr)) - nn (nuC 1)) % pr))) (nn (nuC ((nn (nuC (nn (nuC dN) * nn (nuC (nn (nuC y) * nn (nuC y) % pr)) % pr)) + nn (nuC 1)) % pr))))) ∧ (decide (nn (nuC (quoV (nn (nuC ((nn (nuC (nn (nuC y) * nn (nuC y) % pr)) - nn (nuC 1)) % pr))) (nn (nuC ((nn (nuC (nn (nuC dN) * nn (nuC (nn (nuC y) * nn (nuC y) % pr)) % pr)) + nn (nuC 1)) % pr))))) = 0)) = true)) ∧ True) ∧ True) ∧ True) ∧ ((rpC (⟨0, 0, 0⟩ : P3)).all (fun v => v.oneCell') = true)) ∧ True)) := by kernel_rfl
theorem rat_1 (y : Int) : evF (yty.en tab2) rat_h Try.f10 [.agg (nuC y), .bool true] [some true, some false] = some (.tuple #[.agg (rpC (⟨-(nn (nuC (quoV (nn (nuC ((nn (nuC (nn (nuC y) * nn (nuC y) % pr)) - nn (nuC 1)) % pr))) (nn (nuC ((nn (nuC (nn (nuC dN) * nn (nuC (nn (nuC y) * nn (nuC y) % pr)) % pr)) + nn (nuC 1)) % pr)))))) % pr, y, 1⟩ : P3)), .bool true], ((((((((((((((((((((((((((((((((((((((((((True ∧ True) ∧ True) ∧ True) ∧ (nuD.is (nuC y) ∧ nuD.is (nuC y))) ∧ ((nuC (nn (nuC y) * nn (nuC y) % pr)).all (fun v => v.oneCell') = true)) ∧ True) ∧ (IntKind.u64 = IntKind.u64 ∧ w64 1)) ∧ (nuD.is (nuC (nn (nuC y) * nn (nuC y) % pr)) ∧ nuD.is (nuC 1))) ∧ ((nuC ((nn (nuC (nn (nuC y) * nn (nuC y) % pr)) - nn (nuC 1)) % pr)).all (fun v => v.oneCell') = true)) ∧ True) ∧ True) ∧ (nuD.is (nuC dN) ∧ nuD.is (nuC (nn (nuC y) * nn (nuC y) % pr)))) ∧ (IntKind.u64 = IntKind.u64 ∧ w64 1)) ∧ (nuD.is (nuC (nn (nuC dN) * nn (nuC (nn (nuC y) * nn (nuC y) % pr)) % pr)) ∧ nuD.is (nuC 1))) ∧ ((nuC ((nn (nuC (nn (nuC dN) * nn (nuC (nn (nuC y) * nn (nuC y) % pr)) % pr)) + nn (nuC 1)) % pr)).all (fun v => v.oneCell') = true)) ∧ True) ∧ True) ∧ (nuD.is (nuC ((nn (nuC (nn (nuC y) * nn (nuC y) % pr)) - nn (nuC 1)) % pr)) ∧ nuD.is (nuC ((nn (nuC (nn (nuC dN) * nn (nuC (nn (nuC y) * nn (nuC y) % pr)) % pr)) + nn (nuC 1)) % pr)))) ∧ True) ∧ True) ∧ (True ∧ (quoB (nn (nuC ((nn (nuC (nn (nuC y) * nn (nuC y) % pr)) - nn (nuC 1)) % pr))) (nn (nuC ((nn (nuC (nn (nuC dN) * nn (nuC (nn (nuC y) * nn (nuC y) % pr)) % pr)) + nn (nuC 1)) % pr)))) = true)) ∧ ((nuC (quoV (nn (nuC ((nn (nuC (nn (nuC y) * nn (nuC y) % pr)) - nn (nuC 1)) % pr))) (nn (nuC ((nn (nuC (nn (nuC dN) * nn (nuC (nn (nuC y) * nn (nuC y) % pr)) % pr)) + nn (nuC 1)) % pr))))).all (fun v => v.oneCell') = true)) ∧ True) ∧ True) ∧ True) ∧ True) ∧ True) ∧ True) ∧ True) ∧ (nuD.is (nuC (quoV (nn (nuC ((nn (nuC (nn (nuC y) * nn (nuC y) % pr)) - nn (nuC 1)) % pr))) (nn (nuC ((nn (nuC (nn (nuC dN) * nn (nuC (nn (nuC y) * nn (nuC y) % pr)) % pr)) + nn (nuC 1)) % pr))))) ∧ (decide (nn (nuC (quoV (nn (nuC ((nn (nuC (nn (nuC y) * nn (nuC y) % pr)) - nn (nuC 1)) % pr))) (nn (nuC ((nn (nuC (nn (nuC dN) * nn (nuC (nn (nuC y) * nn (nuC y) % pr)) % pr)) + nn (nuC 1)) % pr))))) = 0)) = false)) ∧ True) ∧ True) ∧ True) ∧ True) ∧ nuD.is (nuC (quoV (nn (nuC ((nn (nuC (nn (nuC y) * nn (nuC y) % pr)) - nn (nuC 1)) % pr))) (nn (nuC ((nn (nuC (nn (nuC dN) * nn (nuC (nn (nuC y) * nn (nuC y) % pr)) % pr)) + nn (nuC 1)) % pr)))))) ∧ ((nuC (-(nn (nuC (quoV (nn (nuC ((nn (nuC (nn (nuC y) * nn (nuC y) % pr)) - nn (nuC 1)) % pr))) (nn (nuC ((nn (nuC (nn (nuC dN) * nn (nuC (nn (nuC y) * nn (nuC y) % pr)) % pr)) + nn (nuC 1)) % pr)))))) % pr)).all (fun v => v.oneCell') = true)) ∧ True) ∧ True) ∧ (IntKind.u64 = IntKind.u64 ∧ w64 1)) ∧ True) ∧ ((rpC (⟨-(nn (nuC (quoV (nn (nuC ((nn (nuC (nn (nuC y) * nn (nuC y) % pr)) - nn (nuC 1)) % pr))) (nn (nuC ((nn (nuC (nn (nuC dN) * nn (nuC (nn (nuC y) * nn (nuC y) % pr)) % pr)) + nn (nuC 1)) % pr)))))) % pr, y, 1⟩ : P3)).all (fun v => v.oneCell') = true)) ∧ True)) := by kernel_rfl
theorem rat_2 (y : Int) : evF (yty.en tab2) rat_h Try.f10 [.agg (nuC y), .bool true] [some false] = some (.tuple #[.agg (rpC (⟨0, 0, 0⟩ : P3)), .bool false], ((((((((((((((((((((((((((((((True ∧ True) ∧ True) ∧ True) ∧ (nuD.is (nuC y) ∧ nuD.is (nuC y))) ∧ ((nuC (nn (nuC y) * nn (nuC y) % pr)).all (fun v => v.oneCell') = true)) ∧ True) ∧ (IntKind.u64 = IntKind.u64 ∧ w64 1)) ∧ (nuD.is (nuC (nn (nuC y) * nn (nuC y) % pr)) ∧ nuD.is (nuC 1))) ∧ ((nuC ((nn (nuC (nn (nuC y) * nn (nuC y) % pr)) - nn (nuC 1)) % pr)).all (fun v => v.oneCell') = true)) ∧ True) ∧ True) ∧ (nuD.is (nuC dN) ∧ nuD.is (nuC (nn (nuC y) * nn (nuC y) % pr)))) ∧ (IntKind.u64 = IntKind.u64 ∧ w64 1)) ∧ (nuD.is (nuC (nn (nuC dN) * nn (nuC (nn (nuC y) * nn (nuC y) % pr)) % pr)) ∧ nuD.is (nuC 1))) ∧ ((nuC ((nn (nuC (nn (nuC dN) * nn (nuC (nn (nuC y) * nn (nuC y) % pr)) % pr)) + nn (nuC 1)) % pr)).all (fun v => v.oneCell') = true)) ∧ True) ∧ True) ∧ (nuD.is (nuC ((nn (nuC (nn (nuC y) * nn (nuC y) % pr)) - nn (nuC 1)) % pr)) ∧ nuD.is (nuC ((nn (nuC (nn (nuC dN) * nn (nuC (nn (nuC y) * nn (nuC y) % pr)) % pr)) + nn (nuC 1)) % pr)))) ∧ True) ∧ True) ∧ (True ∧ (quoB (nn (nuC ((nn (nuC (nn (nuC y) * nn (nuC y) % pr)) - nn (nuC 1)) % pr))) (nn (nuC ((nn (nuC (nn (nuC dN) * nn (nuC (nn (nuC y) * nn (nuC y) % pr)) % pr)) + nn (nuC 1)) % pr)))) = false)) ∧ ((nuC (quoV (nn (nuC ((nn (nuC (nn (nuC y) * nn (nuC y) % pr)) - nn (nuC 1)) % pr))) (nn (nuC ((nn (nuC (nn (nuC dN) * nn (nuC (nn (nuC y) * nn (nuC y) % pr)) % pr)) + nn (nuC 1)) % pr))))).all (fun v => v.oneCell') = true)) ∧ True) ∧ True) ∧ True) ∧ True) ∧ True) ∧ True) ∧ ((rpC (⟨0, 0, 0⟩ : P3)).all (fun v => v.oneCell') = true)) ∧ True)) := by kernel_rfl
def rat_F (y : Int) : Value := cond (quoB (nn (nuC ((nn (nuC (nn (nuC y) * nn (nuC y) % pr)) - nn (nuC 1)) % pr))) (nn (nuC ((nn (nuC (nn (nuC dN) * nn (nuC (nn (nuC y) * nn (nuC y) % pr)) % pr)) + nn (nuC 1)) % pr)))) (cond (decide (nn (nuC (quoV (nn (nuC ((nn (nuC (nn (nuC y) * nn (nuC y) % pr)) - nn (nuC 1)) % pr))) (nn (nuC ((nn (nuC (nn (nuC dN) * nn (nuC (nn (nuC y) * nn (nuC y) % pr)) % pr)) + nn (nuC 1)) % pr))))) = 0)) (.tuple #[.agg (rpC (⟨0, 0, 0⟩ : P3)), .bool false]) (.tuple #[.agg (rpC (⟨-(nn (nuC (quoV (nn (nuC ((nn (nuC (nn (nuC y) * nn (nuC y) % pr)) - nn (nuC 1)) % pr))) (nn (nuC ((nn (nuC (nn (nuC dN) * nn (nuC (nn (nuC y) * nn (nuC y) % pr)) % pr)) + nn (nuC 1)) % pr)))))) % pr, y, 1⟩ : P3)), .bool true])) (.tuple #[.agg (rpC (⟨0, 0, 0⟩ : P3)), .bool false])
set_option maxHeartbeats 4000000 in
theorem rat_p (y : Int) (hy : 0 ≤ y ∧ y < pr) : Pure Try.prog 10 #[.agg (nuC y), .bool true] (rat_F y) := by
  unfold rat_F
  cases h0 : (quoB (nn (nuC ((nn (nuC (nn (nuC y) * nn (nuC y) % pr)) - nn (nuC 1)) % pr))) (nn (nuC ((nn (nuC (nn (nuC dN) * nn (nuC (nn (nuC y) * nn (nuC y) % pr)) % pr)) + nn (nuC 1)) % pr))))
  · skip
    exact pure_of mixed Try.func10 _ (rat_2 y) rfl ⟨⟨⟨⟨⟨⟨⟨⟨⟨⟨⟨⟨⟨⟨⟨⟨⟨⟨⟨⟨⟨⟨⟨⟨⟨⟨⟨⟨⟨⟨trivial, trivial⟩, trivial⟩, trivial⟩, ⟨(nuD.is_enc (hy)), (nuD.is_enc (hy))⟩⟩, one_nu _⟩, trivial⟩, ⟨rfl, ⟨by decide, by decide⟩⟩⟩, ⟨(nuD.is_enc (mod_bd _)), (nuD.is_enc ⟨by decide, by decide⟩)⟩⟩, one_nu _⟩, trivial⟩, trivial⟩, ⟨(nuD.is_enc (bd_d)), (nuD.is_enc (mod_bd _))⟩⟩, ⟨rfl, ⟨by decide, by decide⟩⟩⟩, ⟨(nuD.is_enc (mod_bd _)), (nuD.is_enc ⟨by decide, by decide⟩)⟩⟩, one_nu _⟩, trivial⟩, trivial⟩, ⟨(nuD.is_enc (mod_bd _)), (nuD.is_enc (mod_bd _))⟩⟩, trivial⟩, trivial⟩, ⟨trivial, h0⟩⟩, one_nu _⟩, trivial⟩, trivial⟩, trivial⟩, trivial⟩, trivial⟩, trivial⟩, rpC_one _⟩, trivial⟩
  · skip
    cases h1 : (decide (nn (nuC (quoV (nn (nuC ((nn (nuC (nn (nuC y) * nn (nuC y) % pr)) - nn (nuC 1)) % pr))) (nn (nuC ((nn (nuC (nn (nuC dN) * nn (nuC (nn (nuC y) * nn (nuC y) % pr)) % pr)) + nn (nuC 1)) % pr))))) = 0))
    · skip
      exact pure_of mixed Try.func10 _ (rat_1 y) rfl ⟨⟨⟨⟨⟨⟨⟨⟨⟨⟨⟨⟨⟨⟨⟨⟨⟨⟨⟨⟨⟨⟨⟨⟨⟨⟨⟨⟨⟨⟨⟨⟨⟨⟨⟨⟨⟨⟨⟨⟨⟨⟨trivial, trivial⟩, trivial⟩, trivial⟩, ⟨(nuD.is_enc (hy)), (nuD.is_enc (hy))⟩⟩, one_nu _⟩, trivial⟩, ⟨rfl, ⟨by decide, by decide⟩⟩⟩, ⟨(nuD.is_enc (mod_bd _)), (nuD.is_enc ⟨by decide, by decide⟩)⟩⟩, one_nu _⟩, trivial⟩, trivial⟩, ⟨(nuD.is_enc (bd_d)), (nuD.is_enc (mod_bd _))⟩⟩, ⟨rfl, ⟨by decide, by decide⟩⟩⟩, ⟨(nuD.is_enc (mod_bd _)), (nuD.is_enc ⟨by decide, by decide⟩)⟩⟩, one_nu _⟩, trivial⟩, trivial⟩, ⟨(nuD.is_enc (mod_bd _)), (nuD.is_enc (mod_bd _))⟩⟩, trivial⟩, trivial⟩, ⟨trivial, h0⟩⟩, one_nu _⟩, trivial⟩, trivial⟩, trivial⟩, trivial⟩, trivial⟩, trivial⟩, trivial⟩, ⟨(nuD.is_enc (bd_quoV _ _)), h1⟩⟩, trivial⟩, trivial⟩, trivial⟩, trivial⟩, (nuD.is_enc (bd_quoV _ _))⟩, one_nu _⟩, trivial⟩, trivial⟩, ⟨rfl, ⟨by decide, by decide⟩⟩⟩, trivial⟩, rpC_one _⟩, trivial⟩
    · skip
      exact pure_of mixed Try.func10 _ (rat_0 y) rfl ⟨⟨⟨⟨⟨⟨⟨⟨⟨⟨⟨⟨⟨⟨⟨⟨⟨⟨⟨⟨⟨⟨⟨⟨⟨⟨⟨⟨⟨⟨⟨⟨⟨⟨⟨trivial, trivial⟩, trivial⟩, trivial⟩, ⟨(nuD.is_enc (hy)), (nuD.is_enc (hy))⟩⟩, one_nu _⟩, trivial⟩, ⟨rfl, ⟨by decide, by decide⟩⟩⟩, ⟨(nuD.is_enc (mod_bd _)), (nuD.is_enc ⟨by decide, by decide⟩)⟩⟩, one_nu _⟩, trivial⟩, trivial⟩, ⟨(nuD.is_enc (bd_d)), (nuD.is_enc (mod_bd _))⟩⟩, ⟨rfl, ⟨by decide, by decide⟩⟩⟩, ⟨(nuD.is_enc (mod_bd _)), (nuD.is_enc ⟨by decide, by decide⟩)⟩⟩, one_nu _⟩, trivial⟩, trivial⟩, ⟨(nuD.is_enc (mod_bd _)), (nuD.is_enc (mod_bd _))⟩⟩, trivial⟩, trivial⟩, ⟨trivial, h0⟩⟩, one_nu _⟩, trivial⟩, trivial⟩, trivial⟩, trivial⟩, trivial⟩, trivial⟩, trivial⟩, ⟨(nuD.is_enc (bd_quoV _ _)), h1⟩⟩, trivial⟩, trivial⟩, trivial⟩, rpC_one _⟩, trivial⟩
def rat_S (y : Int) : Value := cond (quoB ((((y * y % pr) - 1) % pr)) ((((dN * (y * y % pr) % pr) + 1) % pr))) (cond (decide ((quoV ((((y * y % pr) - 1) % pr)) ((((dN * (y * y % pr) % pr) + 1) % pr))) = 0)) (.tuple #[.agg (rpC (⟨0, 0, 0⟩ : P3)), .bool false]) (.tuple #[.agg (rpC (⟨-((quoV ((((y * y % pr) - 1) % pr)) ((((dN * (y * y % pr) % pr) + 1) % pr)))) % pr, y, 1⟩ : P3)), .bool true])) (.tuple #[.agg (rpC (⟨0, 0, 0⟩ : P3)), .bool false])
theorem rat_e (y : Int) (hy : 0 ≤ y ∧ y < pr) : rat_F y = rat_S y := by
  unfold rat_F rat_S
  simp only [nm_mod, nn_mod, nm_inv, nn_inv, nm_d, nn_d, nm_1, nn_1, nm_root, nn_quo, nn_nuC _ hy]
def ran_h (i : Nat) : Hn := if i = 2 then ⟨4, [], [], []⟩ else if i = 3 then ⟨6, [], [], []⟩ else if i = 9 then ⟨4, [], [], []⟩ else ⟨0, [], [], []⟩
theorem ran_0 (y : Int) : evF (yty.en tab2) ran_h Try.f10 [.agg (nuC y), .bool false] [some true] = some (.tuple #[.agg (rpC (⟨quoV (nn (nuC ((nn (nuC (nn (nuC y) * nn (nuC y) % pr)) - nn (nuC 1)) % pr))) (nn (nuC ((nn (nuC (nn (nuC dN) * nn (nuC (nn (nuC y) * nn (nuC y) % pr)) % pr)) + nn (nuC 1)) % pr))), y, 1⟩ : P3)), .bool true], (((((((((((((((((((((((((((((((((((((True ∧ True) ∧ True) ∧ True) ∧ (nuD.is (nuC y) ∧ nuD.is (nuC y))) ∧ ((nuC (nn (nuC y) * nn (nuC y) % pr)).all (fun v => v.oneCell') = true)) ∧ True) ∧ (IntKind.u64 = IntKind.u64 ∧ w64 1)) ∧ (nuD.is (nuC (nn (nuC y) * nn (nuC y) % pr)) ∧ nuD.is (nuC 1))) ∧ ((nuC ((nn (nuC (nn (nuC y) * nn (nuC y) % pr)) - nn (nuC 1)) % pr)).all (fun v => v.oneCell') = true)) ∧ True) ∧ True) ∧ (nuD.is (nuC dN) ∧ nuD.is (nuC (nn (nuC y) * nn (nuC y) % pr)))) ∧ (IntKind.u64 = IntKind.u64 ∧ w64 1)) ∧ (nuD.is (nuC (nn (nuC dN) * nn (nuC (nn (nuC y) * nn (nuC y) % pr)) % pr)) ∧ nuD.is (nuC 1))) ∧ ((nuC ((nn (nuC (nn (nuC dN) * nn (nuC (nn (nuC y) * nn (nuC y) % pr)) % pr)) + nn (nuC 1)) % pr)).all (fun v => v.oneCell') = true)) ∧ True) ∧ True) ∧ (nuD.is (nuC ((nn (nuC (nn (nuC y) * nn (nuC y) % pr)) - nn (nuC 1)) % pr)) ∧ nuD.is (nuC ((nn (nuC (nn (nuC dN) * nn (nuC (nn (nuC y) * nn (nuC y) % pr)) % pr)) + nn (nuC 1)) % pr)))) ∧ True) ∧ True) ∧ (True ∧ (quoB (nn (nuC ((nn (nuC (nn (nuC y) * nn (nuC y) % pr)) - nn (nuC 1)) % pr))) (nn (nuC ((nn (nuC (nn (nuC dN) * nn (nuC (nn (nuC y) * nn (nuC y) % pr)) % pr)) + nn (nuC 1)) % pr)))) = true)) ∧ ((nuC (quoV (nn (nuC ((nn (nuC (nn (nuC y) * nn (nuC y) % pr)) - nn (nuC 1)) % pr))) (nn (nuC ((nn (nuC (nn (nuC dN) * nn (nuC (nn (nuC y) * nn (nuC y) % pr)) % pr)) + nn (nuC 1)) % pr))))).all (fun v => v.oneCell') = true)) ∧ True) ∧ True) ∧ True) ∧ True) ∧ True) ∧ True) ∧ True) ∧ True) ∧ True) ∧ True) ∧ True) ∧ (IntKind.u64 = IntKind.u64 ∧ w64 1)) ∧ True) ∧ ((rpC (⟨quoV (nn (nuC ((nn (nuC (nn (nuC y) * nn (nuC y) % pr)) - nn (nuC 1)) % pr))) (nn (nuC ((nn (nuC (nn (nuC dN) * nn (nuC (nn (nuC y) * nn (nuC y) % pr)) % pr)) + nn (nuC 1)) % pr))), y, 1⟩ : P3)).all (fun v => v.oneCell') = true)) ∧ True)) := by kernel_rfl
theorem ran_1 (y : Int) : evF (yty.en tab2) ran_h Try.f10 [.agg (nuC y), .bool false] [some false] = some (.tuple #[.agg (rpC (⟨0, 0, 0⟩ : P3)), .bool false], ((((((((((((((((((((((((((((((True ∧ True) ∧ True) ∧ True) ∧ (nuD.is (nuC y) ∧ nuD.is (nuC y))) ∧ ((nuC (nn (nuC y) * nn (nuC y) % pr)).all (fun v => v.oneCell') = true)) ∧ True) ∧ (IntKind.u64 = IntKind.u64 ∧ w64 1)) ∧ (nuD.is (nuC (nn (nuC y) * nn (nuC y) % pr)) ∧ nuD.is (nuC 1))) ∧ ((nuC ((nn (nuC (nn (nuC y) * nn (nuC y) % pr)) - nn (nuC 1)) % pr)).all (fun v => v.oneCell') = true)) ∧ True) ∧ True) ∧ (nuD.is (nuC dN) ∧ nuD.is (nuC (nn (nuC y) * nn (nuC y) % pr)))) ∧ (IntKind.u64 = IntKind.u64 ∧ w64 1)) ∧ (nuD.is (nuC (nn (nuC dN) * nn (nuC (nn (nuC y) * nn (nuC y) % pr)) % pr)) ∧ nuD.is (nuC 1))) ∧ ((nuC ((nn (nuC (nn (nuC dN) * nn (nuC (nn (nuC y) * nn (nuC y) % pr)) % pr)) + nn (nuC 1)) % pr)).all (fun v => v.oneCell') = true)) ∧ True) ∧ True) ∧ (nuD.is (nuC ((nn (nuC (nn (nuC y) * nn (nuC y) % pr)) - nn (nuC 1)) % pr)) ∧ nuD.is (nuC ((nn (nuC (nn (nuC dN) * nn (nuC (nn (nuC y) * nn (nuC y) % pr)) % pr)) + nn (nuC 1)) % pr)))) ∧ True) ∧ True) ∧ (True ∧ (quoB (nn (nuC ((nn (nuC (nn (nuC y) * nn (nuC y) % pr)) - nn (nuC 1)) % pr))) (nn (nuC ((nn (nuC (nn (nuC dN) * nn (nuC (nn (nuC y) * nn (nuC y) % pr)) % pr)) + nn (nuC 1)) % pr)))) = false)) ∧ ((nuC (quoV (nn (nuC ((nn (nuC (nn (nuC y) * nn (nuC y) % pr)) - nn (nuC 1)) % pr))) (nn (nuC ((nn (nuC (nn (nuC dN) * nn (nuC (nn (nuC y) * nn (nuC y) % pr)) % pr)) + nn (nuC 1)) % pr))))).all (fun v => v.oneCell') = true)) ∧ True) ∧ True) ∧ True) ∧ True) ∧ True) ∧ True) ∧ ((rpC (⟨0, 0, 0⟩ : P3)).all (fun v => v.oneCell') = true)) ∧ True)) := by kernel_rfl
def ran_F (y : Int) : Value := cond (quoB (nn (nuC ((nn (nuC (nn (nuC y) * nn (nuC y) % pr)) - nn (nuC 1)) % pr))) (nn (nuC ((nn (nuC (nn (nuC dN) * nn (nuC (nn (nuC y) * nn (nuC y) % pr)) % pr)) + nn (nuC 1)) % pr)))) (.tuple #[.agg (rpC (⟨quoV (nn (nuC ((nn (nuC (nn (nuC y) * nn (nuC y) % pr)) - nn (nuC 1)) % pr))) (nn (nuC ((nn (nuC (nn (nuC dN) * nn (nuC (nn (nuC y) * nn (nuC y) % pr)) % pr)) + nn (nuC 1)) % pr))), y, 1⟩ : P3)), .bool true]) (.tuple #[.agg (rpC (⟨0, 0, 0⟩ : P3)), .bool false])
set_option maxHeartbeats 4000000 in
theorem ran_p (y : Int) (hy : 0 ≤ y ∧ y < pr) : Pure Try.prog 10 #[.agg (nuC y), .bool false] (ran_F y) := by
  unfold ran_F
  cases h0 : (quoB (nn (nuC ((nn (nuC (nn (nuC y) * nn (nuC y) % pr)) - nn (nuC 1)) % pr))) (nn (nuC ((nn (nuC (nn (nuC dN) * nn (nuC (nn (nuC y) * nn (nuC y) % pr)) % pr)) + nn (nuC 1)) % pr))))
  · skip
    exact pure_of mixed Try.func10 _ (ran_1 y) rfl ⟨⟨⟨⟨⟨⟨⟨⟨⟨⟨⟨⟨⟨⟨⟨⟨⟨⟨⟨⟨⟨⟨⟨⟨⟨⟨⟨⟨⟨⟨trivial, trivial⟩, trivial⟩, trivial⟩, ⟨(nuD.is_enc (hy)), (nuD.is_enc (hy))⟩⟩, one_nu _⟩, trivial⟩, ⟨rfl, ⟨by decide, by decide⟩⟩⟩, ⟨(nuD.is_enc (mod_bd _)), (nuD.is_enc ⟨by decide, by decide⟩)⟩⟩, one_nu _⟩, trivial⟩, trivial⟩, ⟨(nuD.is_enc (bd_d)), (nuD.is_enc (mod_bd _))⟩⟩, ⟨rfl, ⟨by decide, by decide⟩⟩⟩, ⟨(nuD.is_enc (mod_bd _)), (nuD.is_enc ⟨by decide, by decide⟩)⟩⟩, one_nu _⟩, trivial⟩, trivial⟩, ⟨(nuD.is_enc (mod_bd _)), (nuD.is_enc (mod_bd _))⟩⟩, trivial⟩, trivial⟩, ⟨trivial, h0⟩⟩, one_nu _⟩, trivial⟩, trivial⟩, trivial⟩, trivial⟩, trivial⟩, trivial⟩, rpC_one _⟩, trivial⟩
  · skip
    exact pure_of mixed Try.func10 _ (ran_0 y) rfl ⟨⟨⟨⟨⟨⟨⟨⟨⟨⟨⟨⟨⟨⟨⟨⟨⟨⟨⟨⟨⟨⟨⟨⟨⟨⟨⟨⟨⟨⟨⟨⟨⟨⟨⟨⟨⟨trivial, trivial⟩, trivial⟩, trivial⟩, ⟨(nuD.is_enc (hy)), (nuD.is_enc (hy))⟩⟩, one_nu _⟩, trivial⟩, ⟨rfl, ⟨by decide, by decide⟩⟩⟩, ⟨(nuD.is_enc (mod_bd _)), (nuD.is_enc ⟨by decide, by decide⟩)⟩⟩, one_nu _⟩, trivial⟩, trivial⟩, ⟨(nuD.is_enc (bd_d)), (nuD.is_enc (mod_bd _))⟩⟩, ⟨rfl, ⟨by decide, by decide⟩⟩⟩, ⟨(nuD.is_enc (mod_bd _)), (nuD.is_enc ⟨by decide, by decide⟩)⟩⟩, one_nu _⟩, trivial⟩, trivial⟩, ⟨(nuD.is_enc (mod_bd _)), (nuD.is_enc (mod_bd _))⟩⟩, trivial⟩, trivial⟩, ⟨trivial, h0⟩⟩, one_nu _⟩, trivial⟩, trivial⟩, trivial⟩, trivial⟩, trivial⟩, trivial⟩, trivial⟩, trivial⟩, trivial⟩, trivial⟩, trivial⟩, ⟨rfl, ⟨by decide, by decide⟩⟩⟩, trivial⟩, rpC_one _⟩, trivial⟩
def ran_S (y : Int) : Value := cond (quoB ((((y * y % pr) - 1) % pr)) ((((dN * (y * y % pr) % pr) + 1) % pr))) (.tuple #[.agg (rpC (⟨quoV ((((y * y % pr) - 1) % pr)) ((((dN * (y * y % pr) % pr) + 1) % pr)), y, 1⟩ : P3)), .bool true]) (.tuple #[.agg (rpC (⟨0, 0, 0⟩ : P3)), .bool false])
theorem ran_e (y : Int) (hy : 0 ≤ y ∧ y < pr) : ran_F y = ran_S y := by
  unfold ran_F ran_S
  simp only [nm_mod, nn_mod, nm_inv, nn_inv, nm_d, nn_d, nm_1, nn_1, nm_root, nn_quo, nn_nuC _ hy]
def ron_h (i : Nat) : Hn := if i = 1 then ⟨11, [], [], []⟩ else if i = 8 then ⟨12, [], [], []⟩ else ⟨0, [], [], []⟩
theorem ron_0 (x y z t : Int) : evF (yty.en tab2) ron_h Try.f17 [.agg (nuC x), .agg (nuC y), .agg (nuC z), .agg (nuC t)] [some true] = some (.bool false, ((((((True ∧ True) ∧ True) ∧ (nuD.is (nuC z) ∧ (decide (nn (nuC z) = 0)) = true)) ∧ True) ∧ True) ∧ True)) := by kernel_rfl
theorem ron_1 (x y z t : Int) : evF (yty.en tab2) ron_h Try.f17 [.agg (nuC x), .agg (nuC y), .agg (nuC z), .agg (nuC t)] [some false, some true] = some (.bool false, (((((((((((((True ∧ True) ∧ True) ∧ (nuD.is (nuC z) ∧ (decide (nn (nuC z) = 0)) = false)) ∧ True) ∧ True) ∧ True) ∧ (nuD.is (nuC x) ∧ nuD.is (nuC y))) ∧ True) ∧ True) ∧ (nuD.is (nuC z) ∧ nuD.is (nuC t))) ∧ ((nuD.is (nuC (nn (nuC x) * nn (nuC y) % pr)) ∧ nuD.is (nuC (nn (nuC z) * nn (nuC t) % pr))) ∧ (!(decide (nn (nuC (nn (nuC x) * nn (nuC y) % pr)) = nn (nuC (nn (nuC z) * nn (nuC t) % pr))))) = true)) ∧ True) ∧ True)) := by kernel_rfl
theorem ron_2 (x y z t : Int) : evF (yty.en tab2) ron_h Try.f17 [.agg (nuC x), .agg (nuC y), .agg (nuC z), .agg (nuC t)] [some false, some false, none] = some (.bool (decide (nn (nuC ((nn (nuC (nn (nuC (nn (nuC y) * nn (nuC (invF (nn (nuC z)))) % pr)) * nn (nuC (nn (nuC y) * nn (nuC (invF (nn (nuC z)))) % pr)) % pr)) - nn (nuC (nn (nuC (nn (nuC x) * nn (nuC (invF (nn (nuC z)))) % pr)) * nn (nuC (nn (nuC x) * nn (nuC (invF (nn (nuC z)))) % pr)) % pr))) % pr)) = nn (nuC ((nn (nuC 1) + nn (nuC (nn (nuC dN) * nn (nuC (nn (nuC (nn (nuC (nn (nuC x) * nn (nuC (invF (nn (nuC z)))) % pr)) * nn (nuC (nn (nuC x) * nn (nuC (invF (nn (nuC z)))) % pr)) % pr)) * nn (nuC (nn (nuC (nn (nuC y) * nn (nuC (invF (nn (nuC z)))) % pr)) * nn (nuC (nn (nuC y) * nn (nuC (invF (nn (nuC z)))) % pr)) % pr)) % pr)) % pr))) % pr)))), (((((((((((((((((((((((((((((((((((((((((((True ∧ True) ∧ True) ∧ (nuD.is (nuC z) ∧ (decide (nn (nuC z) = 0)) = false)) ∧ True) ∧ True) ∧ True) ∧ (nuD.is (nuC x) ∧ nuD.is (nuC y))) ∧ True) ∧ True) ∧ (nuD.is (nuC z) ∧ nuD.is (nuC t))) ∧ ((nuD.is (nuC (nn (nuC x) * nn (nuC y) % pr)) ∧ nuD.is (nuC (nn (nuC z) * nn (nuC t) % pr))) ∧ (!(decide (nn (nuC (nn (nuC x) * nn (nuC y) % pr)) = nn (nuC (nn (nuC z) * nn (nuC t) % pr))))) = false)) ∧ True) ∧ True) ∧ nuD.is (nuC z)) ∧ ((nuC (invF (nn (nuC z)))).all (fun v => v.oneCell') = true)) ∧ True) ∧ True) ∧ (nuD.is (nuC x) ∧ nuD.is (nuC (invF (nn (nuC z)))))) ∧ ((nuC (nn (nuC x) * nn (nuC (invF (nn (nuC z)))) % pr)).all (fun v => v.oneCell') = true)) ∧ True) ∧ True) ∧ (nuD.is (nuC y) ∧ nuD.is (nuC (invF (nn (nuC z)))))) ∧ ((nuC (nn (nuC y) * nn (nuC (invF (nn (nuC z)))) % pr)).all (fun v => v.oneCell') = true)) ∧ True) ∧ True) ∧ (nuD.is (nuC (nn (nuC x) * nn (nuC (invF (nn (nuC z)))) % pr)) ∧ nuD.is (nuC (nn (nuC x) * nn (nuC (invF (nn (nuC z)))) % pr)))) ∧ ((nuC (nn (nuC (nn (nuC x) * nn (nuC (invF (nn (nuC z)))) % pr)) * nn (nuC (nn (nuC x) * nn (nuC (invF (nn (nuC z)))) % pr)) % pr)).all (fun v => v.oneCell') = true)) ∧ True) ∧ True) ∧ (nuD.is (nuC (nn (nuC y) * nn (nuC (invF (nn (nuC z)))) % pr)) ∧ nuD.is (nuC (nn (nuC y) * nn (nuC (invF (nn (nuC z)))) % pr)))) ∧ ((nuC (nn (nuC (nn (nuC y) * nn (nuC (invF (nn (nuC z)))) % pr)) * nn (nuC (nn (nuC y) * nn (nuC (invF (nn (nuC z)))) % pr)) % pr)).all (fun v => v.oneCell') = true)) ∧ True) ∧ True) ∧ (nuD.is (nuC (nn (nuC (nn (nuC y) * nn (nuC (invF (nn (nuC z)))) % pr)) * nn (nuC (nn (nuC y) * nn (nuC (invF (nn (nuC z)))) % pr)) % pr)) ∧ nuD.is (nuC (nn (nuC (nn (nuC x) * nn (nuC (invF (nn (nuC z)))) % pr)) * nn (nuC (nn (nuC x) * nn (nuC (invF (nn (nuC z)))) % pr)) % pr)))) ∧ (IntKind.u64 = IntKind.u64 ∧ w64 1)) ∧ True) ∧ True) ∧ True) ∧ (nuD.is (nuC (nn (nuC (nn (nuC x) * nn (nuC (invF (nn (nuC z)))) % pr)) * nn (nuC (nn (nuC x) * nn (nuC (invF (nn (nuC z)))) % pr)) % pr)) ∧ nuD.is (nuC (nn (nuC (nn (nuC y) * nn (nuC (invF (nn (nuC z)))) % pr)) * nn (nuC (nn (nuC y) * nn (nuC (invF (nn (nuC z)))) % pr)) % pr)))) ∧ (nuD.is (nuC dN) ∧ nuD.is (nuC (nn (nuC (nn (nuC (nn (nuC x) * nn (nuC (invF (nn (nuC z)))) % pr)) * nn (nuC (nn (nuC x) * nn (nuC (invF (nn (nuC z)))) % pr)) % pr)) * nn (nuC (nn (nuC (nn (nuC y) * nn (nuC (invF (nn (nuC z)))) % pr)) * nn (nuC (nn (nuC y) * nn (nuC (invF (nn (nuC z)))) % pr)) % pr)) % pr)))) ∧ (nuD.is (nuC 1) ∧ nuD.is (nuC (nn (nuC dN) * nn (nuC (nn (nuC (nn (nuC (nn (nuC x) * nn (nuC (invF (nn (nuC z)))) % pr)) * nn (nuC (nn (nuC x) * nn (nuC (invF (nn (nuC z)))) % pr)) % pr)) * nn (nuC (nn (nuC (nn (nuC y) * nn (nuC (invF (nn (nuC z)))) % pr)) * nn (nuC (nn (nuC y) * nn (nuC (invF (nn (nuC z)))) % pr)) % pr)) % pr)) % pr)))) ∧ (nuD.is (nuC ((nn (nuC (nn (nuC (nn (nuC y) * nn (nuC (invF (nn (nuC z)))) % pr)) * nn (nuC (nn (nuC y) * nn (nuC (invF (nn (nuC z)))) % pr)) % pr)) - nn (nuC (nn (nuC (nn (nuC x) * nn (nuC (invF (nn (nuC z)))) % pr)) * nn (nuC (nn (nuC x) * nn (nuC (invF (nn (nuC z)))) % pr)) % pr))) % pr)) ∧ nuD.is (nuC ((nn (nuC 1) + nn (nuC (nn (nuC dN) * nn (nuC (nn (nuC (nn (nuC (nn (nuC x) * nn (nuC (invF (nn (nuC z)))) % pr)) * nn (nuC (nn (nuC x) * nn (nuC (invF (nn (nuC z)))) % pr)) % pr)) * nn (nuC (nn (nuC (nn (nuC y) * nn (nuC (invF (nn (nuC z)))) % pr)) * nn (nuC (nn (nuC y) * nn (nuC (invF (nn (nuC z)))) % pr)) % pr)) % pr)) % pr))) % pr)))) ∧ True)) := by kernel_rfl
def ron_F (x y z t : Int) : Value := cond (decide (nn (nuC z) = 0)) (.bool false) (cond (!(decide (nn (nuC (nn (nuC x) * nn (nuC y) % pr)) = nn (nuC (nn (nuC z) * nn (nuC t) % pr))))) (.bool false) (.bool (decide (nn (nuC ((nn (nuC (nn (nuC (nn (nuC y) * nn (nuC (invF (nn (nuC z)))) % pr)) * nn (nuC (nn (nuC y) * nn (nuC (invF (nn (nuC z)))) % pr)) % pr)) - nn (nuC (nn (nuC (nn (nuC x) * nn (nuC (invF (nn (nuC z)))) % pr)) * nn (nuC (nn (nuC x) * nn (nuC (invF (nn (nuC z)))) % pr)) % pr))) % pr)) = nn (nuC ((nn (nuC 1) + nn (nuC (nn (nuC dN) * nn (nuC (nn (nuC (nn (nuC (nn (nuC x) * nn (nuC (invF (nn (nuC z)))) % pr)) * nn (nuC (nn (nuC x) * nn (nuC (invF (nn (nuC z)))) % pr)) % pr)) * nn (nuC (nn (nuC (nn (nuC y) * nn (nuC (invF (nn (nuC z)))) % pr)) * nn (nuC (nn (nuC y) * nn (nuC (invF (nn (nuC z)))) % pr)) % pr)) % pr)) % pr))) % pr))))))
set_option maxHeartbeats 4000000 in
theorem ron_p (x y z t : Int) (hx : 0 ≤ x ∧ x < pr) (hy : 0 ≤ y ∧ y < pr) (hz : 0 ≤ z ∧ z < pr) (ht : 0 ≤ t ∧ t < pr) : Pure Try.prog 17 #[.agg (nuC x), .agg (nuC y), .agg (nuC z), .agg (nuC t)] (ron_F x y z t) := by
  unfold ron_F
  cases h0 : (decide (nn (nuC z) = 0))
  · skip
    cases h1 : (!(decide (nn (nuC (nn (nuC x) * nn (nuC y) % pr)) = nn (nuC (nn (nuC z) * nn (nuC t) % pr)))))
    · skip
      exact pure_of mixed Try.func17 _ (ron_2 x y z t) rfl ⟨⟨⟨⟨⟨⟨⟨⟨⟨⟨⟨⟨⟨⟨⟨⟨⟨⟨⟨⟨⟨⟨⟨⟨⟨⟨⟨⟨⟨⟨⟨⟨⟨⟨⟨⟨⟨⟨⟨⟨⟨⟨⟨trivial, trivial⟩, trivial⟩, ⟨(nuD.is_enc (hz)), h0⟩⟩, trivial⟩, trivial⟩, trivial⟩, ⟨(nuD.is_enc (hx)), (nuD.is_enc (hy))⟩⟩, trivial⟩, trivial⟩, ⟨(nuD.is_enc (hz)), (nuD.is_enc (ht))⟩⟩, ⟨⟨(nuD.is_enc (mod_bd _)), (nuD.is_enc (mod_bd _))⟩, h1⟩⟩, trivial⟩, trivial⟩, (nuD.is_enc (hz))⟩, one_nu _⟩, trivial⟩, trivial⟩, ⟨(nuD.is_enc (hx)), (nuD.is_enc (bd_inv _))⟩⟩, one_nu _⟩, trivial⟩, trivial⟩, ⟨(nuD.is_enc (hy)), (nuD.is_enc (bd_inv _))⟩⟩, one_nu _⟩, trivial⟩, trivial⟩, ⟨(nuD.is_enc (mod_bd _)), (nuD.is_enc (mod_bd _))⟩⟩, one_nu _⟩, trivial⟩, trivial⟩, ⟨(nuD.is_enc (mod_bd _)), (nuD.is_enc (mod_bd _))⟩⟩, one_nu _⟩, trivial⟩, trivial⟩, ⟨(nuD.is_enc (mod_bd _)), (nuD.is_enc (mod_bd _))⟩⟩, ⟨rfl, ⟨by decide, by decide⟩⟩⟩, trivial⟩, trivial⟩, trivial⟩, ⟨(nuD.is_enc (mod_bd _)), (nuD.is_enc (mod_bd _))⟩⟩, ⟨(nuD.is_enc (bd_d)), (nuD.is_enc (mod_bd _))⟩⟩, ⟨(nuD.is_enc ⟨by decide, by decide⟩), (nuD.is_enc (mod_bd _))⟩⟩, ⟨(nuD.is_enc (mod_bd _)), (nuD.is_enc (mod_bd _))⟩⟩, trivial⟩
    · skip
      exact pure_of mixed Try.func17 _ (ron_1 x y z t) rfl ⟨⟨⟨⟨⟨⟨⟨⟨⟨⟨⟨⟨⟨trivial, trivial⟩, trivial⟩, ⟨(nuD.is_enc (hz)), h0⟩⟩, trivial⟩, trivial⟩, trivial⟩, ⟨(nuD.is_enc (hx)), (nuD.is_enc (hy))⟩⟩, trivial⟩, trivial⟩, ⟨(nuD.is_enc (hz)), (nuD.is_enc (ht))⟩⟩, ⟨⟨(nuD.is_enc (mod_bd _)), (nuD.is_enc (mod_bd _))⟩, h1⟩⟩, trivial⟩, trivial⟩
  · skip
    exact pure_of mixed Try.func17 _ (ron_0 x y z t) rfl ⟨⟨⟨⟨⟨⟨trivial, trivial⟩, trivial⟩, ⟨(nuD.is_enc (hz)), h0⟩⟩, trivial⟩, trivial⟩, trivial⟩
def ron_S (x y z t : Int) : Value := cond (decide (z = 0)) (.bool false) (cond (!(decide ((x * y % pr) = (z * t % pr)))) (.bool false) (.bool (decide (((((y * (invF (z)) % pr) * (y * (invF (z)) % pr) % pr) - ((x * (invF (z)) % pr) * (x * (invF (z)) % pr) % pr)) % pr) = ((1 + (dN * (((x * (invF (z)) % pr) * (x * (invF (z)) % pr) % pr) * ((y * (invF (z)) % pr) * (y * (invF (z)) % pr) % pr) % pr) % pr)) % pr)))))
theorem ron_e (x y z t : Int) (hx : 0 ≤ x ∧ x < pr) (hy : 0 ≤ y ∧ y < pr) (hz : 0 ≤ z ∧ z < pr) (ht : 0 ≤ t ∧ t < pr) : ron_F x y z t = ron_S x y z t := by
  unfold ron_F ron_S
  simp only [nm_mod, nn_mod, nm_inv, nn_inv, nm_d, nn_d, nm_1, nn_1, nm_root, nn_quo, nn_nuC _ hx, nn_nuC _ hy, nn_nuC _ hz, nn_nuC _ ht]
def rad_h (i : Nat) : Hn := if i = 1 then ⟨4, [], [], []⟩ else ⟨0, [], [], []⟩
theorem rad_0 (p q : P3) : evF (yty.en tab2) rad_h Try.f26 [.agg (rpC p), .agg (rpC q)] [] = some (.agg (rpC (rab_R (dr (rpC p)) (dr (rpC q)) (nn (nuC dN)))), (((((True ∧ True) ∧ True) ∧ True) ∧ (rpD.is (rpC p) ∧ rpD.is (rpC q) ∧ nuD.is (nuC dN))) ∧ ((rpC (rab_R (dr (rpC p)) (dr (rpC q)) (nn (nuC dN)))).all (fun v => v.oneCell') = true))) := by kernel_rfl
def rad_F (p q : P3) : Value := .agg (rpC (rab_R (dr (rpC p)) (dr (rpC q)) (nn (nuC dN))))
set_option maxHeartbeats 4000000 in
theorem rad_p (p q : P3) (hp : Nu3 p) (hq : Nu3 q) : Pure Try.prog 26 #[.agg (rpC p), .agg (rpC q)] (rad_F p q) := by
  unfold rad_F
  exact pure_of mixed Try.func26 _ (rad_0 p q) rfl ⟨⟨⟨⟨⟨trivial, trivial⟩, trivial⟩, trivial⟩, ⟨(rpD.is_enc (hp)), (rpD.is_enc (hq)), (nuD.is_enc (bd_d))⟩⟩, rpC_one _⟩
def rad_R (p q : P3) : P3 := rab_R (p) (q) (dN)
def rad_S (p q : P3) : Value := .agg (rpC (rad_R p q))
theorem rad_e (p q : P3) (hp : Nu3 p) (hq : Nu3 q) : rad_F p q = rad_S p q := by
  unfold rad_F rad_S rad_R
  simp only [nm_mod, nn_mod, nm_inv, nn_inv, nm_d, nn_d, nm_1, nn_1, nm_root, nn_quo, dr_rpC _ hp, dr_rpC _ hq]
end Go.Proofs.Ytpmplilhifkeaaa

set_option linter.unusedSimpArgs false
set_option linter.unusedVariables false
namespace Go.Proofs.Ytpmplilhifkeaaa
open Go.RowKit Go.Ev
theorem RAdd3_c (p q : P3) (hp : Nu3 p) (hq : Nu3 q) : Pure Try.prog 26 #[.agg (rpC p), .agg (rpC q)] (.agg (rpC (rab_R p q dN))) := by
  have h := rad_p p q hp hq
  rwa [rad_e p q hp hq] at h
def qAdd : Entry Try.prog := ent2 Try.func26 (by kernel_rfl) (by kernel_rfl) rpD rpD (fun p q => .agg (rpC (rab_R p q dN))) RAdd3_c
def ratX (y : Int) (o : Bool) : Int := cond o (-(quoV (atU y) (atV y)) % pr) (quoV (atU y) (atV y))
def ratB (y : Int) (o : Bool) : Bool := quoB (atU y) (atV y) && !(o && decide (quoV (atU y) (atV y) = 0))
def ratP (y : Int) (o : Bool) : P3 := cond (ratB y o) ⟨ratX y o, y, 1⟩ ⟨0, 0, 0⟩
theorem RAt_c (y : Int) (o : Bool) (hy : 0 ≤ y ∧ y < pr) : Pure Try.prog 10 #[.agg (nuC y), .bool o] (.tuple #[.agg (rpC (ratP y o)), .bool (ratB y o)]) := by
  cases o with
  | true =>
    have h := rat_p y hy
    rw [rat_e y hy] at h
    unfold rat_S at h
    unfold ratP ratB
    show Pure _ _ _ (.tuple #[.agg (rpC (cond (quoB (atU y) (atV y) && !(true && decide (quoV (atU y) (atV y) = 0))) ⟨-(quoV (atU y) (atV y)) % pr, y, 1⟩ _)), .bool (quoB (atU y) (atV y) && !(true && decide (quoV (atU y) (atV y) = 0)))])
    unfold atU atV
    cases h0 : quoB ((y * y % pr - 1) % pr) ((dN * (y * y % pr) % pr + 1) % pr) with
    | false => rw [h0] at h; exact h
    | true =>
      rw [h0] at h
      cases h1 : decide (quoV ((y * y % pr - 1) % pr) ((dN * (y * y % pr) % pr + 1) % pr) = 0) with
      | false => rw [h1] at h; exact h
      | true => rw [h1] at h; exact h
  | false =>
    have h := ran_p y hy
    rw [ran_e y hy] at h
    unfold ran_S at h
    unfold ratP ratB
    show Pure _ _ _ (.tuple #[.agg (rpC (cond (quoB (atU y) (atV y) && !(false && decide (quoV (atU y) (atV y) = 0))) ⟨quoV (atU y) (atV y), y, 1⟩ _)), .bool (quoB (atU y) (atV y) && !(false && decide (quoV (atU y) (atV y) = 0)))])
    unfold atU atV
    cases h0 : quoB ((y * y % pr - 1) % pr) ((dN * (y * y % pr) % pr + 1) % pr) with
    | false => rw [h0] at h; exact h
    | true => rw [h0] at h; exact h
def qAt : Entry Try.prog := ent1b Try.func10 (by kernel_rfl) (by kernel_rfl) nuD (fun (y : Int) o => .tuple #[.agg (rpC (ratP y o)), .bool (ratB y o)]) (fun y o hy => RAt_c y o hy)
def ronL (x y z : Int) : Int := (y * invF z % pr * (y * invF z % pr) % pr - x * invF z % pr * (x * invF z % pr) % pr) % pr
def ronR (x y z : Int) : Int := (1 + dN * (x * invF z % pr * (x * invF z % pr) % pr * (y * invF z % pr * (y * invF z % pr) % pr) % pr) % pr) % pr
def ronB (x y z t : Int) : Bool := cond (decide (z = 0)) false (cond (!decide (x * y % pr = z * t % pr)) false (decide (ronL x y z = ronR x y z)))
theorem ROn_c (x y z t : Int) (hx : 0 ≤ x ∧ x < pr) (hy : 0 ≤ y ∧ y < pr) (hz : 0 ≤ z ∧ z < pr) (ht : 0 ≤ t ∧ t < pr) : Pure Try.prog 17 #[.agg (nuC x), .agg (nuC y), .agg (nuC z), .agg (nuC t)] (.bool (ronB x y z t)) := by
  have h := ron_p x y z t hx hy hz ht
  rw [ron_e x y z t hx hy hz ht] at h
  unfold ron_S at h
  unfold ronB
  cases h0 : decide (z = 0) with
  | true => rw [h0] at h; exact h
  | false =>
    rw [h0] at h
    cases h1 : decide (x * y % pr = z * t % pr) with
    | false => rw [h1] at h; exact h
    | true => rw [h1] at h; exact h
def qOn : Entry Try.prog := ent4 Try.func17 (by kernel_rfl) (by kernel_rfl) nuD nuD nuD nuD (fun (x y z t : Int) => .bool (ronB x y z t)) (fun x y z t hx hy hz ht => ROn_c x y z t hx hy hz ht)
def tab3 : List (Entry Try.prog) := qAdd :: qAt :: qOn :: tab2
def isr_h (i : Nat) : Hn := if i = 1 then ⟨16, [], [], []⟩ else ⟨0, [], [], []⟩
theorem isr_0 (p : P4) (q : P3) : evF (yty.en tab3) isr_h Try.f13 [.agg (ptC p), .agg (rpC q)] [some true, none] = some (.bool (rsmB (dr (rpC (⟨nm (feC p.X) % pr, nm (feC p.Y) % pr, nm (feC p.Z) % pr⟩ : P3))) (dr (rpC q))), (((((((((((((((((((((((((((((((True ∧ True) ∧ True) ∧ True) ∧ feD.is (feC p.X)) ∧ True) ∧ True) ∧ feD.is (feC p.Y)) ∧ True) ∧ True) ∧ feD.is (feC p.Z)) ∧ True) ∧ True) ∧ feD.is (feC p.T)) ∧ ((nuC (nm (feC p.X) % pr)).all (fun v => v.oneCell') = true)) ∧ ((nuC (nm (feC p.Y) % pr)).all (fun v => v.oneCell') = true)) ∧ ((nuC (nm (feC p.Z) % pr)).all (fun v => v.oneCell') = true)) ∧ ((nuC (nm (feC p.T) % pr)).all (fun v => v.oneCell') = true)) ∧ True) ∧ True) ∧ True) ∧ True) ∧ ((nuD.is (nuC (nm (feC p.X) % pr)) ∧ nuD.is (nuC (nm (feC p.Y) % pr)) ∧ nuD.is (nuC (nm (feC p.Z) % pr)) ∧ nuD.is (nuC (nm (feC p.T) % pr))) ∧ (ronB (nn (nuC (nm (feC p.X) % pr))) (nn (nuC (nm (feC p.Y) % pr))) (nn (nuC (nm (feC p.Z) % pr))) (nn (nuC (nm (feC p.T) % pr)))) = true)) ∧ True) ∧ True) ∧ True) ∧ True) ∧ True) ∧ True) ∧ (rpD.is (rpC (⟨nm (feC p.X) % pr, nm (feC p.Y) % pr, nm (feC p.Z) % pr⟩ : P3)) ∧ rpD.is (rpC q))) ∧ True) ∧ True)) := by kernel_rfl
theorem isr_1 (p : P4) (q : P3) : evF (yty.en tab3) isr_h Try.f13 [.agg (ptC p), .agg (rpC q)] [some false] = some (.bool false, (((((((((((((((((((((((((True ∧ True) ∧ True) ∧ True) ∧ feD.is (feC p.X)) ∧ True) ∧ True) ∧ feD.is (feC p.Y)) ∧ True) ∧ True) ∧ feD.is (feC p.Z)) ∧ True) ∧ True) ∧ feD.is (feC p.T)) ∧ ((nuC (nm (feC p.X) % pr)).all (fun v => v.oneCell') = true)) ∧ ((nuC (nm (feC p.Y) % pr)).all (fun v => v.oneCell') = true)) ∧ ((nuC (nm (feC p.Z) % pr)).all (fun v => v.oneCell') = true)) ∧ ((nuC (nm (feC p.T) % pr)).all (fun v => v.oneCell') = true)) ∧ True) ∧ True) ∧ True) ∧ True) ∧ ((nuD.is (nuC (nm (feC p.X) % pr)) ∧ nuD.is (nuC (nm (feC p.Y) % pr)) ∧ nuD.is (nuC (nm (feC p.Z) % pr)) ∧ nuD.is (nuC (nm (feC p.T) % pr))) ∧ (ronB (nn (nuC (nm (feC p.X) % pr))) (nn (nuC (nm (feC p.Y) % pr))) (nn (nuC (nm (feC p.Z) % pr))) (nn (nuC (nm (feC p.T) % pr)))) = false)) ∧ True) ∧ True) ∧ True)) := by kernel_rfl
def isr_F (p : P4) (q : P3) : Value := cond (ronB (nn (nuC (nm (feC p.X) % pr))) (nn (nuC (nm (feC p.Y) % pr))) (nn (nuC (nm (feC p.Z) % pr))) (nn (nuC (nm (feC p.T) % pr)))) (.bool (rsmB (dr (rpC (⟨nm (feC p.X) % pr, nm (feC p.Y) % pr, nm (feC p.Z) % pr⟩ : P3))) (dr (rpC q)))) (.bool false)
set_option maxHeartbeats 4000000 in
theorem isr_p (p : P4) (q : P3) (hp : Ok4 p) (hq : Nu3 q) : Pure Try.prog 13 #[.agg (ptC p), .agg (rpC q)] (isr_F p q) := by
  have ⟨hX, hY, hZ, hT⟩ := hp
  unfold isr_F
  cases h0 : (ronB (nn (nuC (nm (feC p.X) % pr))) (nn (nuC (nm (feC p.Y) % pr))) (nn (nuC (nm (feC p.Z) % pr))) (nn (nuC (nm (feC p.T) % pr))))
  · skip
    exact pure_of mixed Try.func13 _ (isr_1 p q) rfl ⟨⟨⟨⟨⟨⟨⟨⟨⟨⟨⟨⟨⟨⟨⟨⟨⟨⟨⟨⟨⟨⟨⟨⟨⟨trivial, trivial⟩, trivial⟩, trivial⟩, (feD.is_enc (hp.1))⟩, trivial⟩, trivial⟩, (feD.is_enc (hp.2.1))⟩, trivial⟩, trivial⟩, (feD.is_enc (hp.2.2.1))⟩, trivial⟩, trivial⟩, (feD.is_enc (hp.2.2.2))⟩, one_nu _⟩, one_nu _⟩, one_nu _⟩, one_nu _⟩, trivial⟩, trivial⟩, trivial⟩, trivial⟩, ⟨⟨(nuD.is_enc (mod_bd _)), (nuD.is_enc (mod_bd _)), (nuD.is_enc (mod_bd _)), (nuD.is_enc (mod_bd _))⟩, h0⟩⟩, trivial⟩, trivial⟩, trivial⟩
  · skip
    exact pure_of mixed Try.func13 _ (isr_0 p q) rfl ⟨⟨⟨⟨⟨⟨⟨⟨⟨⟨⟨⟨⟨⟨⟨⟨⟨⟨⟨⟨⟨⟨⟨⟨⟨⟨⟨⟨⟨⟨⟨trivial, trivial⟩, trivial⟩, trivial⟩, (feD.is_enc (hp.1))⟩, trivial⟩, trivial⟩, (feD.is_enc (hp.2.1))⟩, trivial⟩, trivial⟩, (feD.is_enc (hp.2.2.1))⟩, trivial⟩, trivial⟩, (feD.is_enc (hp.2.2.2))⟩, one_nu _⟩, one_nu _⟩, one_nu _⟩, one_nu _⟩, trivial⟩, trivial⟩, trivial⟩, trivial⟩, ⟨⟨(nuD.is_enc (mod_bd _)), (nuD.is_enc (mod_bd _)), (nuD.is_enc (mod_bd _)), (nuD.is_enc (mod_bd _))⟩, h0⟩⟩, trivial⟩, trivial⟩, trivial⟩, trivial⟩, trivial⟩, trivial⟩, ⟨(rpD.is_enc ⟨mod_bd _, mod_bd _, mod_bd _⟩), (rpD.is_enc (hq))⟩⟩, trivial⟩, trivial⟩
def isr_S (p : P4) (q : P3) : Value := cond (ronB ((p.X % pr)) ((p.Y % pr)) ((p.Z % pr)) ((p.T % pr))) (.bool (rsmB ((⟨p.X % pr, p.Y % pr, p.Z % pr⟩ : P3)) (q))) (.bool false)
theorem isr_e (p : P4) (q : P3) (hp : Ok4 p) (hq : Nu3 q) : isr_F p q = isr_S p q := by
  have ⟨hX, hY, hZ, hT⟩ := hp
  unfold isr_F isr_S
  simp only [nm_mod, nn_mod, nm_inv, nn_inv, nm_d, nn_d, nm_1, nn_1, nm_root, nn_quo, nm_feC _ hX, nm_feC _ hY, nm_feC _ hZ, nm_feC _ hT, dr_rpC q hq, dr_rpC (⟨p.X % pr, p.Y % pr, p.Z % pr⟩ : P3) ⟨mod_bd _, mod_bd _, mod_bd _⟩]
def isB (p : P4) (q : P3) : Bool := cond (ronB (p.X % pr) (p.Y % pr) (p.Z % pr) (p.T % pr)) (rsmB ⟨p.X % pr, p.Y % pr, p.Z % pr⟩ q) false
theorem LIs_c (p : P4) (q : P3) (hp : Ok4 p) (hq : Nu3 q) : Pure Try.prog 13 #[.agg (ptC p), .agg (rpC q)] (.bool (isB p q)) := by
  have h := isr_p p q hp hq
  rw [isr_e p q hp hq] at h
  unfold isr_S at h
  unfold isB
  cases h0 : ronB (p.X % pr) (p.Y % pr) (p.Z % pr) (p.T % pr) with
  | false => rw [h0] at h; exact h
  | true => rw [h0] at h; exact h
def lIs : Entry Try.prog := ent2 Try.func13 (by kernel_rfl) (by kernel_rfl) ptD rpD (fun p q => .bool (isB p q)) LIs_c
end Go.Proofs.Ytpmplilhifkeaaa
