/-
  ResidueField: scalars keep the laws of a field, and all that is answered may be: true for every three scalars, of any bytes.
-/
import Derived.Test.YtgjicjmihlcgkaaRows
import Derived.Test.YtgjicjmihlcgkaaOpen
import Derived.Test.YtgjicjmihlcgkaaRzArgs
import Derived.Test.YtgjicjmihlcgkaaRzField
namespace Go.Proofs.Ytgjicjmihlcgkaa
open Go.ChangeShapes Go.WideShapes Go.ChangeAt Go.RowKit Go.Arr

theorem ownResidueField : ownKnob Try.prog.godebug = none := by kernel_rfl
theorem cSResidueField : Try.prog.cellsOf 36 = 32 := by kernel_rfl
theorem c8ResidueField : Try.prog.cellsOf 5 = 1 := by kernel_rfl

set_option maxRecDepth 100000 in
theorem residueField_lifted (os : Os) (started : os.Started) (H : Type) (enc : TypeId × Value → H) :
    ReturnsInHanded {} Try.checked os 8 .any (Rows.residueFieldSpec.pre6 enc Try.prog Try.f8 Rows.residueFieldRow.domain false) (Rows.residueFieldSpec.post enc Try.prog Try.f8 false true false false) := by
  refine returnsInHanded_of_change (C := Try.checked) ownResidueField started (by kernel_rfl) Try.func8
    (ChangeSpec.witness6 (enc := enc) (C := Try.checked) false ⟨#[], #[(.agg #[.int .u8 0, .int .u8 0, .int .u8 0, .int .u8 0, .int .u8 0, .int .u8 0, .int .u8 0, .int .u8 0, .int .u8 0, .int .u8 0, .int .u8 0, .int .u8 0, .int .u8 0, .int .u8 0, .int .u8 0, .int .u8 0, .int .u8 0, .int .u8 0, .int .u8 0, .int .u8 0, .int .u8 0, .int .u8 0, .int .u8 0, .int .u8 0, .int .u8 0, .int .u8 0, .int .u8 0, .int .u8 0, .int .u8 0, .int .u8 0, .int .u8 0, .int .u8 0]), (.agg #[.int .u8 0, .int .u8 0, .int .u8 0, .int .u8 0, .int .u8 0, .int .u8 0, .int .u8 0, .int .u8 0, .int .u8 0, .int .u8 0, .int .u8 0, .int .u8 0, .int .u8 0, .int .u8 0, .int .u8 0, .int .u8 0, .int .u8 0, .int .u8 0, .int .u8 0, .int .u8 0, .int .u8 0, .int .u8 0, .int .u8 0, .int .u8 0, .int .u8 0, .int .u8 0, .int .u8 0, .int .u8 0, .int .u8 0, .int .u8 0, .int .u8 0, .int .u8 0]), (.agg #[.int .u8 0, .int .u8 0, .int .u8 0, .int .u8 0, .int .u8 0, .int .u8 0, .int .u8 0, .int .u8 0, .int .u8 0, .int .u8 0, .int .u8 0, .int .u8 0, .int .u8 0, .int .u8 0, .int .u8 0, .int .u8 0, .int .u8 0, .int .u8 0, .int .u8 0, .int .u8 0, .int .u8 0, .int .u8 0, .int .u8 0, .int .u8 0, .int .u8 0, .int .u8 0, .int .u8 0, .int .u8 0, .int .u8 0, .int .u8 0, .int .u8 0, .int .u8 0])], []⟩ 8 (by kernel_rfl) (by kernel_rfl) (by kernel_rfl) (by kernel_rfl)) ?_
  intro W base args ds gs before hval0 hW hcnd _
  have hval : ∀ (j : Nat) t v, Try.f8.params[j]? = some t → args[j]? = some v → Value.okWide Try.prog W .any base t v := hval0
  have hW' := hW
  obtain ⟨p, q, hA0, hV, rfl, hfz, hnd⟩ := hW
  have hA : DataW.TrodAll enc Try.prog W 0 (fun _ => true) true Try.f8.params.toList args.toList ds p := hA0
  rw [Try.params8] at hA hval
  obtain ⟨v0, v1, v2, d0, d1, d2, p0, p1, p2, rfl, rfl, rfl, h0, h1, h2⟩ := trodAll_three hA
  obtain ⟨rfl, rfl⟩ := trodVars_none hV
  obtain ⟨x0, rfl, l0, wf0, rfl, rfl⟩ := Calm.open_ints_arr Try.underlying36 Try.underlying5 c8ResidueField cSResidueField (hval 0 36 v0 rfl rfl) h0
  obtain ⟨A0, okA0, eA0⟩ := num_list 32 x0 l0 (fun x hx => bounds_u8 (wf0 x hx))
  obtain ⟨x1, rfl, l1, wf1, rfl, rfl⟩ := Calm.open_ints_arr Try.underlying36 Try.underlying5 c8ResidueField cSResidueField (hval 1 36 v1 rfl rfl) h1
  obtain ⟨A1, okA1, eA1⟩ := num_list 32 x1 l1 (fun x hx => bounds_u8 (wf1 x hx))
  obtain ⟨x2, rfl, l2, wf2, rfl, rfl⟩ := Calm.open_ints_arr Try.underlying36 Try.underlying5 c8ResidueField cSResidueField (hval 2 36 v2 rfl rfl) h2
  obtain ⟨A2, okA2, eA2⟩ := num_list 32 x2 l2 (fun x hx => bounds_u8 (wf2 x hx))
  clear hA0 hval0
  simp only [List.append_nil] at hW'
  have hc := rfield_c A0 A1 A2 okA0 okA1 okA2 W
  rw [eA0, eA1, eA2] at hc
  refine hc.mono fun e W' ⟨he, hg⟩ => ?_
  subst he
  exact ⟨_, rfl, _, _, _, [], [], [], hW', trodAll_mk1 (shut_bool Try.underlying4 _), trodAll_mk3 (Calm.shut_ints_arr Try.underlying36 Try.underlying5 c8ResidueField cSResidueField x0 l0 wf0) (Calm.shut_ints_arr Try.underlying36 Try.underlying5 c8ResidueField cSResidueField x1 l1 wf1) (Calm.shut_ints_arr Try.underlying36 Try.underlying5 c8ResidueField cSResidueField x2 l2 wf2), rfl, hg.frame _, fun h => by cases h⟩

theorem residueField_holds : Rows.ResidueFieldSaid :=
  OpenClaim.holds_of_wide 8 Try.f8 rfl rfl rfl rfl rfl rfl rfl ⟨rfl, rfl, rfl, rfl, rfl⟩ rfl rfl rfl rfl rfl (by kernel_rfl) Try.func8 (by kernel_rfl)
    (of_decide_eq_true (by kernel_rfl)) (by unfold Func.isWrapper; first | (rw [if_pos (by decide +kernel)]; kernel_rfl) | (rw [if_neg (by decide +kernel)]; exact ⟨rfl, rfl⟩))
    (fun os started H enc _ => residueField_lifted os started H enc)
end Go.Proofs.Ytgjicjmihlcgkaa
