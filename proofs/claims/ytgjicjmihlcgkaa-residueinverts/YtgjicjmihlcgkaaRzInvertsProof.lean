/-
  ResidueInverts: the inverse of a scalar is the document's: true for every scalar, of any bytes.
-/
import Derived.Test.YtgjicjmihlcgkaaRows
import Derived.Test.YtgjicjmihlcgkaaOpen
import Derived.Test.YtgjicjmihlcgkaaRzArgs
import Derived.Test.YtgjicjmihlcgkaaRzInvertsLaw
namespace Go.Proofs.Ytgjicjmihlcgkaa
open Go.ChangeShapes Go.WideShapes Go.ChangeAt Go.RowKit Go.Arr

theorem ownResidueInverts : ownKnob Try.prog.godebug = none := by kernel_rfl
theorem cSResidueInverts : Try.prog.cellsOf 36 = 32 := by kernel_rfl
theorem c8ResidueInverts : Try.prog.cellsOf 5 = 1 := by kernel_rfl

set_option maxRecDepth 100000 in
theorem residueInverts_lifted (os : Os) (started : os.Started) (H : Type) (enc : TypeId × Value → H) :
    ReturnsInHanded {} Try.checked os 7 .any (Rows.residueInvertsSpec.pre6 enc Try.prog Try.f7 Rows.residueInvertsRow.domain false) (Rows.residueInvertsSpec.post enc Try.prog Try.f7 false true false false) := by
  refine returnsInHanded_of_change (C := Try.checked) ownResidueInverts started (by kernel_rfl) Try.func7
    (ChangeSpec.witness6 (enc := enc) (C := Try.checked) false ⟨#[], #[(.agg #[.int .u8 0, .int .u8 0, .int .u8 0, .int .u8 0, .int .u8 0, .int .u8 0, .int .u8 0, .int .u8 0, .int .u8 0, .int .u8 0, .int .u8 0, .int .u8 0, .int .u8 0, .int .u8 0, .int .u8 0, .int .u8 0, .int .u8 0, .int .u8 0, .int .u8 0, .int .u8 0, .int .u8 0, .int .u8 0, .int .u8 0, .int .u8 0, .int .u8 0, .int .u8 0, .int .u8 0, .int .u8 0, .int .u8 0, .int .u8 0, .int .u8 0, .int .u8 0])], []⟩ 8 (by kernel_rfl) (by kernel_rfl) (by kernel_rfl) (by kernel_rfl)) ?_
  intro W base args ds gs before hval0 hW hcnd _
  have hval : ∀ (j : Nat) t v, Try.f7.params[j]? = some t → args[j]? = some v → Value.okWide Try.prog W .any base t v := hval0
  have hW' := hW
  obtain ⟨p, q, hA0, hV, rfl, hfz, hnd⟩ := hW
  have hA : DataW.TrodAll enc Try.prog W 0 (fun _ => true) true Try.f7.params.toList args.toList ds p := hA0
  rw [Try.params7] at hA hval
  obtain ⟨v0, d0, rfl, rfl, h0⟩ := trodAll_one hA
  obtain ⟨rfl, rfl⟩ := trodVars_none hV
  obtain ⟨x0, rfl, l0, wf0, rfl, rfl⟩ := Calm.open_ints_arr Try.underlying36 Try.underlying5 c8ResidueInverts cSResidueInverts (hval 0 36 v0 rfl rfl) h0
  obtain ⟨A0, okA0, eA0⟩ := num_list 32 x0 l0 (fun x hx => bounds_u8 (wf0 x hx))
  clear hA0 hval0
  simp only [List.append_nil] at hW'
  have hc := rinverts_c A0 okA0 W
  rw [eA0] at hc
  refine hc.mono fun e W' ⟨he, hg⟩ => ?_
  subst he
  exact ⟨_, rfl, _, _, _, [], [], [], hW', trodAll_mk1 (shut_bool Try.underlying4 _), trodAll_mk1 (Calm.shut_ints_arr Try.underlying36 Try.underlying5 c8ResidueInverts cSResidueInverts x0 l0 wf0), rfl, hg.frame _, fun h => by cases h⟩

theorem residueInverts_holds : Rows.ResidueInvertsSaid :=
  OpenClaim.holds_of_wide 7 Try.f7 rfl rfl rfl rfl rfl rfl rfl ⟨rfl, rfl, rfl, rfl, rfl⟩ rfl rfl rfl rfl rfl (by kernel_rfl) Try.func7 (by kernel_rfl)
    (of_decide_eq_true (by kernel_rfl)) (by unfold Func.isWrapper; first | (rw [if_pos (by decide +kernel)]; kernel_rfl) | (rw [if_neg (by decide +kernel)]; exact ⟨rfl, rfl⟩))
    (fun os started H enc _ => residueInverts_lifted os started H enc)
end Go.Proofs.Ytgjicjmihlcgkaa
