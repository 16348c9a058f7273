/-
  ResidueForms: whether bytes may be, and the scalars of a number and of 64 bytes, are the document's: true for all of these.
-/
import Derived.Test.YtgjicjmihlcgkaaRows
import Derived.Test.YtgjicjmihlcgkaaOpen
import Derived.Test.YtgjicjmihlcgkaaRzArgs
import Derived.Test.YtgjicjmihlcgkaaRzFormsLaw
namespace Go.Proofs.Ytgjicjmihlcgkaa
open Go.ChangeShapes Go.WideShapes Go.ChangeAt Go.RowKit Go.Arr

theorem ownResidueForms : ownKnob Try.prog.godebug = none := by kernel_rfl
theorem cCResidueForms : Try.prog.cellsOf 37 = 64 := by kernel_rfl
theorem cSResidueForms : Try.prog.cellsOf 36 = 32 := by kernel_rfl
theorem c8ResidueForms : Try.prog.cellsOf 5 = 1 := by kernel_rfl

set_option maxRecDepth 100000 in
theorem residueForms_lifted (os : Os) (started : os.Started) (H : Type) (enc : TypeId × Value → H) :
    ReturnsInHanded {} Try.checked os 4 .any (Rows.residueFormsSpec.pre6 enc Try.prog Try.f4 Rows.residueFormsRow.domain false) (Rows.residueFormsSpec.post enc Try.prog Try.f4 false true false false) := by
  refine returnsInHanded_of_change (C := Try.checked) ownResidueForms started (by kernel_rfl) Try.func4
    (ChangeSpec.witness6 (enc := enc) (C := Try.checked) false ⟨#[], #[(.agg #[.int .u8 0, .int .u8 0, .int .u8 0, .int .u8 0, .int .u8 0, .int .u8 0, .int .u8 0, .int .u8 0, .int .u8 0, .int .u8 0, .int .u8 0, .int .u8 0, .int .u8 0, .int .u8 0, .int .u8 0, .int .u8 0, .int .u8 0, .int .u8 0, .int .u8 0, .int .u8 0, .int .u8 0, .int .u8 0, .int .u8 0, .int .u8 0, .int .u8 0, .int .u8 0, .int .u8 0, .int .u8 0, .int .u8 0, .int .u8 0, .int .u8 0, .int .u8 0]), .int .u64 0, (.agg #[.int .u8 0, .int .u8 0, .int .u8 0, .int .u8 0, .int .u8 0, .int .u8 0, .int .u8 0, .int .u8 0, .int .u8 0, .int .u8 0, .int .u8 0, .int .u8 0, .int .u8 0, .int .u8 0, .int .u8 0, .int .u8 0, .int .u8 0, .int .u8 0, .int .u8 0, .int .u8 0, .int .u8 0, .int .u8 0, .int .u8 0, .int .u8 0, .int .u8 0, .int .u8 0, .int .u8 0, .int .u8 0, .int .u8 0, .int .u8 0, .int .u8 0, .int .u8 0, .int .u8 0, .int .u8 0, .int .u8 0, .int .u8 0, .int .u8 0, .int .u8 0, .int .u8 0, .int .u8 0, .int .u8 0, .int .u8 0, .int .u8 0, .int .u8 0, .int .u8 0, .int .u8 0, .int .u8 0, .int .u8 0, .int .u8 0, .int .u8 0, .int .u8 0, .int .u8 0, .int .u8 0, .int .u8 0, .int .u8 0, .int .u8 0, .int .u8 0, .int .u8 0, .int .u8 0, .int .u8 0, .int .u8 0, .int .u8 0, .int .u8 0, .int .u8 0])], []⟩ 8 (by kernel_rfl) (by kernel_rfl) (by kernel_rfl) (by kernel_rfl)) ?_
  intro W base args ds gs before hval0 hW hcnd _
  have hval : ∀ (j : Nat) t v, Try.f4.params[j]? = some t → args[j]? = some v → Value.okWide Try.prog W .any base t v := hval0
  have hW' := hW
  obtain ⟨p, q, hA0, hV, rfl, hfz, hnd⟩ := hW
  have hA : DataW.TrodAll enc Try.prog W 0 (fun _ => true) true Try.f4.params.toList args.toList ds p := hA0
  rw [Try.params4] at hA hval
  obtain ⟨v0, v1, v2, d0, d1, d2, p0, p1, p2, rfl, rfl, rfl, h0, h1, h2⟩ := trodAll_three hA
  obtain ⟨rfl, rfl⟩ := trodVars_none hV
  obtain ⟨x0, rfl, l0, wf0, rfl, rfl⟩ := Calm.open_ints_arr Try.underlying36 Try.underlying5 c8ResidueForms cSResidueForms (hval 0 36 v0 rfl rfl) h0
  obtain ⟨A0, okA0, eA0⟩ := num_list 32 x0 l0 (fun x hx => bounds_u8 (wf0 x hx))
  obtain ⟨A1, rfl, rfl, rfl, wf1⟩ := open_int Try.underlying22 (hval 1 22 v1 rfl rfl) h1
  have okA1 := bounds_u64 wf1
  obtain ⟨x2, rfl, l2, wf2, rfl, rfl⟩ := Calm.open_ints_arr Try.underlying37 Try.underlying5 c8ResidueForms cCResidueForms (hval 2 37 v2 rfl rfl) h2
  obtain ⟨A2, okA2, eA2⟩ := num_list 64 x2 l2 (fun x hx => bounds_u8 (wf2 x hx))
  clear hA0 hval0
  simp only [List.append_nil] at hW'
  have hc := rforms_c A0 A1 A2 okA0 okA1 okA2 W
  rw [eA0, eA2] at hc
  refine hc.mono fun e W' ⟨he, hg⟩ => ?_
  subst he
  exact ⟨_, rfl, _, _, _, [], [], [], hW', trodAll_mk1 (shut_bool Try.underlying4 _), trodAll_mk3 (Calm.shut_ints_arr Try.underlying36 Try.underlying5 c8ResidueForms cSResidueForms x0 l0 wf0) (shut_int Try.underlying22 wf1) (Calm.shut_ints_arr Try.underlying37 Try.underlying5 c8ResidueForms cCResidueForms x2 l2 wf2), rfl, hg.frame _, fun h => by cases h⟩

theorem residueForms_holds : Rows.ResidueFormsSaid :=
  OpenClaim.holds_of_wide 4 Try.f4 rfl rfl rfl rfl rfl rfl rfl ⟨rfl, rfl, rfl, rfl, rfl⟩ rfl rfl rfl rfl rfl (by kernel_rfl) Try.func4 (by kernel_rfl)
    (of_decide_eq_true (by kernel_rfl)) (by unfold Func.isWrapper; first | (rw [if_pos (by decide +kernel)]; kernel_rfl) | (rw [if_neg (by decide +kernel)]; exact ⟨rfl, rfl⟩))
    (fun os started H enc _ => residueForms_lifted os started H enc)
end Go.Proofs.Ytgjicjmihlcgkaa
