/-
  ResidueSums: the sum and the difference of two scalars are the document's: true for every two scalars, of any bytes.
-/
import Derived.Test.YtgjicjmihlcgkaaRows
import Derived.Test.YtgjicjmihlcgkaaOpen
import Derived.Test.YtgjicjmihlcgkaaRzArgs
import Derived.Test.YtgjicjmihlcgkaaRzSumsLaw
namespace Go.Proofs.Ytgjicjmihlcgkaa
open Go.ChangeShapes Go.WideShapes Go.ChangeAt Go.RowKit Go.Arr

theorem ownResidueSums : ownKnob Try.prog.godebug = none := by kernel_rfl
theorem cSResidueSums : Try.prog.cellsOf 36 = 32 := by kernel_rfl
theorem c8ResidueSums : Try.prog.cellsOf 5 = 1 := by kernel_rfl

set_option maxRecDepth 100000 in
theorem residueSums_lifted (os : Os) (started : os.Started) (H : Type) (enc : TypeId × Value → H) :
    ReturnsInHanded {} Try.checked os 5 .any (Rows.residueSumsSpec.pre6 enc Try.prog Try.f5 Rows.residueSumsRow.domain false) (Rows.residueSumsSpec.post enc Try.prog Try.f5 false true false false) := by
  refine returnsInHanded_of_change (C := Try.checked) ownResidueSums started (by kernel_rfl) Try.func5
    (ChangeSpec.witness6 (enc := enc) (C := Try.checked) false ⟨#[], #[(.agg #[.int .u8 0, .int .u8 0, .int .u8 0, .int .u8 0, .int .u8 0, .int .u8 0, .int .u8 0, .int .u8 0, .int .u8 0, .int .u8 0, .int .u8 0, .int .u8 0, .int .u8 0, .int .u8 0, .int .u8 0, .int .u8 0, .int .u8 0, .int .u8 0, .int .u8 0, .int .u8 0, .int .u8 0, .int .u8 0, .int .u8 0, .int .u8 0, .int .u8 0, .int .u8 0, .int .u8 0, .int .u8 0, .int .u8 0, .int .u8 0, .int .u8 0, .int .u8 0]), (.agg #[.int .u8 0, .int .u8 0, .int .u8 0, .int .u8 0, .int .u8 0, .int .u8 0, .int .u8 0, .int .u8 0, .int .u8 0, .int .u8 0, .int .u8 0, .int .u8 0, .int .u8 0, .int .u8 0, .int .u8 0, .int .u8 0, .int .u8 0, .int .u8 0, .int .u8 0, .int .u8 0, .int .u8 0, .int .u8 0, .int .u8 0, .int .u8 0, .int .u8 0, .int .u8 0, .int .u8 0, .int .u8 0, .int .u8 0, .int .u8 0, .int .u8 0, .int .u8 0])], []⟩ 8 (by kernel_rfl) (by kernel_rfl) (by kernel_rfl) (by kernel_rfl)) ?_
  intro W base args ds gs before hval0 hW hcnd _
  have hval : ∀ (j : Nat) t v, Try.f5.params[j]? = some t → args[j]? = some v → Value.okWide Try.prog W .any base t v := hval0
  have hW' := hW
  obtain ⟨p, q, hA0, hV, rfl, hfz, hnd⟩ := hW
  have hA : DataW.TrodAll enc Try.prog W 0 (fun _ => true) true Try.f5.params.toList args.toList ds p := hA0
  rw [Try.params5] at hA hval
  obtain ⟨v0, v1, d0, d1, p0, p1, rfl, rfl, rfl, h0, h1⟩ := trodAll_two hA
  obtain ⟨rfl, rfl⟩ := trodVars_none hV
  obtain ⟨x0, rfl, l0, wf0, rfl, rfl⟩ := Calm.open_ints_arr Try.underlying36 Try.underlying5 c8ResidueSums cSResidueSums (hval 0 36 v0 rfl rfl) h0
  obtain ⟨A0, okA0, eA0⟩ := num_list 32 x0 l0 (fun x hx => bounds_u8 (wf0 x hx))
  obtain ⟨x1, rfl, l1, wf1, rfl, rfl⟩ := Calm.open_ints_arr Try.underlying36 Try.underlying5 c8ResidueSums cSResidueSums (hval 1 36 v1 rfl rfl) h1
  obtain ⟨A1, okA1, eA1⟩ := num_list 32 x1 l1 (fun x hx => bounds_u8 (wf1 x hx))
  clear hA0 hval0
  simp only [List.append_nil] at hW'
  have hc := rsums_c A0 A1 okA0 okA1 W
  rw [eA0, eA1] at hc
  refine hc.mono fun e W' ⟨he, hg⟩ => ?_
  subst he
  exact ⟨_, rfl, _, _, _, [], [], [], hW', trodAll_mk1 (shut_bool Try.underlying4 _), trodAll_mk2 (Calm.shut_ints_arr Try.underlying36 Try.underlying5 c8ResidueSums cSResidueSums x0 l0 wf0) (Calm.shut_ints_arr Try.underlying36 Try.underlying5 c8ResidueSums cSResidueSums x1 l1 wf1), rfl, hg.frame _, fun h => by cases h⟩

theorem residueSums_holds : Rows.ResidueSumsSaid :=
  OpenClaim.holds_of_wide 5 Try.f5 rfl rfl rfl rfl rfl rfl rfl ⟨rfl, rfl, rfl, rfl, rfl⟩ rfl rfl rfl rfl rfl (by kernel_rfl) Try.func5 (by kernel_rfl)
    (of_decide_eq_true (by kernel_rfl)) (by unfold Func.isWrapper; first | (rw [if_pos (by decide +kernel)]; kernel_rfl) | (rw [if_neg (by decide +kernel)]; exact ⟨rfl, rfl⟩))
    (fun os started H enc _ => residueSums_lifted os started H enc)
end Go.Proofs.Ytgjicjmihlcgkaa
