/-
  RistoEncodes: the bytes of a point that is twice another one are the document's: true for any y, x odd or not.
-/
import Derived.Test.YtlbofcgjdbfenaaRows
import Derived.Test.YtlbofcgjdbfenaaEdRAll
import Derived.Test.YtlbofcgjdbfenaaRiL1
namespace Go.Proofs.Ytlbofcgjdbfenaa
open Go.ChangeShapes Go.WideShapes Go.ChangeAt Go.RowKit

theorem ownRistoEncodes : ownKnob Try.prog.godebug = none := by kernel_rfl

set_option maxRecDepth 100000 in
theorem ristoEncodes_lifted (os : Os) (started : os.Started) (H : Type) (enc : TypeId × Value → H) :
    ReturnsInHanded {} Try.checked os 5 .any (Rows.ristoEncodesSpec.pre6 enc Try.prog Try.f5 Rows.ristoEncodesRow.domain false) (Rows.ristoEncodesSpec.post enc Try.prog Try.f5 false true false false) := by
  refine returnsInHanded_of_change (C := Try.checked) ownRistoEncodes started (by kernel_rfl) Try.func5
    (ChangeSpec.witness6 (enc := enc) (C := Try.checked) false ⟨#[], #[(.agg #[.int .u64 0, .int .u64 0, .int .u64 0, .int .u64 0, .bool false])], []⟩ 8 (by kernel_rfl) (by kernel_rfl) (by kernel_rfl) (by kernel_rfl)) ?_
  intro W base args ds gs before hval0 hW hcnd _
  have hval : ∀ (j : Nat) t v, Try.f5.params[j]? = some t → args[j]? = some v → Value.okWide Try.prog W .any base t v := hval0
  have hW' := hW
  obtain ⟨p, q, hA0, hV, rfl, hfz, hnd⟩ := hW
  have hA : DataW.TrodAll enc Try.prog W 0 (fun _ => true) true Try.f5.params.toList args.toList ds p := hA0
  rw [Try.params5] at hA hval
  obtain ⟨v0, d0, rfl, rfl, h0⟩ := trodAll_one hA
  obtain ⟨rfl, rfl⟩ := trodVars_none hV
  obtain ⟨A0, okA0, rfl⟩ := open_sd (hval 0 28 v0 rfl rfl) h0
  obtain rfl := (Calm.flat_shut (W' := W) (base' := 0) (sp' := fun _ => true) (held' := true) flatSd h0).1
  clear hA0 hval0
  simp only [List.append_nil] at hW'
  have hc := encodes_c A0 okA0 W
  refine hc.mono fun e W' ⟨he, hg⟩ => ?_
  subst he
  exact ⟨_, rfl, _, _, _, [], [], [], hW', trodAll_mk1 (shut_bool Try.underlying4 _), trodAll_mk1 (Calm.flat_shut (W' := W') flatSd h0).2, rfl, hg.frame _, fun h => by cases h⟩

theorem ristoEncodes_holds : Rows.RistoEncodesSaid :=
  OpenClaim.holds_of_wide 5 Try.f5 rfl rfl rfl rfl rfl rfl rfl ⟨rfl, rfl, rfl, rfl, rfl⟩ rfl rfl rfl rfl rfl (by kernel_rfl) Try.func5 (by kernel_rfl)
    (of_decide_eq_true (by kernel_rfl)) (by unfold Func.isWrapper; first | (rw [if_pos (by decide +kernel)]; kernel_rfl) | (rw [if_neg (by decide +kernel)]; exact ⟨rfl, rfl⟩))
    (fun os started H enc _ => ristoEncodes_lifted os started H enc)
end Go.Proofs.Ytlbofcgjdbfenaa
