/-
  EdwardsScales: a point m times and n times is, added, m + n times the point, and the base taken as often as layer 2's order says is the identity: true for any m and n of 32 bits and any y, x odd or not.
-/
import Derived.Test.YtlbofcgjdbfenaaRows
import Derived.Test.YtlbofcgjdbfenaaEdRAll
import Derived.Test.YtlbofcgjdbfenaaEdL6
namespace Go.Proofs.Ytlbofcgjdbfenaa
open Go.ChangeShapes Go.WideShapes Go.ChangeAt Go.RowKit

theorem ownEdwardsScales : ownKnob Try.prog.godebug = none := by kernel_rfl

set_option maxRecDepth 100000 in
theorem edwardsScales_lifted (os : Os) (started : os.Started) (H : Type) (enc : TypeId × Value → H) :
    ReturnsInHanded {} Try.checked os 4 .any (Rows.edwardsScalesSpec.pre6 enc Try.prog Try.f4 Rows.edwardsScalesRow.domain false) (Rows.edwardsScalesSpec.post enc Try.prog Try.f4 false true false false) := by
  refine returnsInHanded_of_change (C := Try.checked) ownEdwardsScales started (by kernel_rfl) Try.func4
    (ChangeSpec.witness6 (enc := enc) (C := Try.checked) false ⟨#[], #[(.int .u32 0), (.int .u32 0), (.agg #[.int .u64 0, .int .u64 0, .int .u64 0, .int .u64 0, .bool false])], []⟩ 8 (by kernel_rfl) (by kernel_rfl) (by kernel_rfl) (by kernel_rfl)) ?_
  intro W base args ds gs before hval0 hW hcnd _
  have hval : ∀ (j : Nat) t v, Try.f4.params[j]? = some t → args[j]? = some v → Value.okWide Try.prog W .any base t v := hval0
  have hW' := hW
  obtain ⟨p, q, hA0, hV, rfl, hfz, hnd⟩ := hW
  have hA : DataW.TrodAll enc Try.prog W 0 (fun _ => true) true Try.f4.params.toList args.toList ds p := hA0
  rw [Try.params4] at hA hval
  obtain ⟨v0, v1, v2, d0, d1, d2, p0, p1, p2, rfl, rfl, rfl, h0, h1, h2⟩ := trodAll_three hA
  obtain ⟨rfl, rfl⟩ := trodVars_none hV
  obtain ⟨A0, rfl, rfl, rfl, wf0⟩ := open_int Try.underlying42 (hval 0 42 v0 rfl rfl) h0
  have okA0 := bounds_u32 wf0
  obtain ⟨A1, rfl, rfl, rfl, wf1⟩ := open_int Try.underlying42 (hval 1 42 v1 rfl rfl) h1
  have okA1 := bounds_u32 wf1
  obtain ⟨A2, okA2, rfl⟩ := open_sd (hval 2 28 v2 rfl rfl) h2
  obtain rfl := (Calm.flat_shut (W' := W) (base' := 0) (sp' := fun _ => true) (held' := true) flatSd h2).1
  clear hA0 hval0
  simp only [List.append_nil] at hW'
  have hc := scales_c A0 A1 A2 okA0 okA1 okA2 W
  refine hc.mono fun e W' ⟨he, hg⟩ => ?_
  subst he
  exact ⟨_, rfl, _, _, _, [], [], [], hW', trodAll_mk1 (shut_bool Try.underlying4 _), trodAll_mk3 (shut_int Try.underlying42 wf0) (shut_int Try.underlying42 wf1) (Calm.flat_shut (W' := W') flatSd h2).2, rfl, hg.frame _, fun h => by cases h⟩

theorem edwardsScales_holds : Rows.EdwardsScalesSaid :=
  OpenClaim.holds_of_wide 4 Try.f4 rfl rfl rfl rfl rfl rfl rfl ⟨rfl, rfl, rfl, rfl, rfl⟩ rfl rfl rfl rfl rfl (by kernel_rfl) Try.func4 (by kernel_rfl)
    (of_decide_eq_true (by kernel_rfl)) (by unfold Func.isWrapper; first | (rw [if_pos (by decide +kernel)]; kernel_rfl) | (rw [if_neg (by decide +kernel)]; exact ⟨rfl, rfl⟩))
    (fun os started H enc _ => edwardsScales_lifted os started H enc)
end Go.Proofs.Ytlbofcgjdbfenaa
