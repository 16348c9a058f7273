/-
  EdwardsGroup: the points are a group under the program's sum: true for any three seeds.
-/
import Derived.Test.YtpmplilhifkeaaaRows
import Derived.Test.YtpmplilhifkeaaaEdRAll
import Derived.Test.YtpmplilhifkeaaaEdL3
namespace Go.Proofs.Ytpmplilhifkeaaa
open Go.ChangeShapes Go.WideShapes Go.ChangeAt Go.RowKit

theorem ownEdwardsGroup : ownKnob Try.prog.godebug = none := by kernel_rfl

set_option maxRecDepth 100000 in
theorem edwardsGroup_lifted (os : Os) (started : os.Started) (H : Type) (enc : TypeId × Value → H) :
    ReturnsInHanded {} Try.checked os 7 .any (Rows.edwardsGroupSpec.pre6 enc Try.prog Try.f7 Rows.edwardsGroupRow.domain false) (Rows.edwardsGroupSpec.post enc Try.prog Try.f7 false true false false) := by
  refine returnsInHanded_of_change (C := Try.checked) ownEdwardsGroup started (by kernel_rfl) Try.func7
    (ChangeSpec.witness6 (enc := enc) (C := Try.checked) false ⟨#[], #[(.agg #[.int .u64 0, .int .u64 0, .int .u64 0, .int .u64 0, .bool false]), (.agg #[.int .u64 0, .int .u64 0, .int .u64 0, .int .u64 0, .bool false]), (.agg #[.int .u64 0, .int .u64 0, .int .u64 0, .int .u64 0, .bool false])], []⟩ 8 (by kernel_rfl) (by kernel_rfl) (by kernel_rfl) (by kernel_rfl)) ?_
  intro W base args ds gs before hval0 hW hcnd _
  have hval : ∀ (j : Nat) t v, Try.f7.params[j]? = some t → args[j]? = some v → Value.okWide Try.prog W .any base t v := hval0
  have hW' := hW
  obtain ⟨p, q, hA0, hV, rfl, hfz, hnd⟩ := hW
  have hA : DataW.TrodAll enc Try.prog W 0 (fun _ => true) true Try.f7.params.toList args.toList ds p := hA0
  rw [Try.params7] at hA hval
  obtain ⟨v0, v1, v2, d0, d1, d2, p0, p1, p2, rfl, rfl, rfl, h0, h1, h2⟩ := trodAll_three hA
  obtain ⟨rfl, rfl⟩ := trodVars_none hV
  obtain ⟨A0, okA0, rfl⟩ := open_sd (hval 0 52 v0 rfl rfl) h0
  obtain rfl := (Calm.flat_shut (W' := W) (base' := 0) (sp' := fun _ => true) (held' := true) flatSd h0).1
  obtain ⟨A1, okA1, rfl⟩ := open_sd (hval 1 52 v1 rfl rfl) h1
  obtain rfl := (Calm.flat_shut (W' := W) (base' := 0) (sp' := fun _ => true) (held' := true) flatSd h1).1
  obtain ⟨A2, okA2, rfl⟩ := open_sd (hval 2 52 v2 rfl rfl) h2
  obtain rfl := (Calm.flat_shut (W' := W) (base' := 0) (sp' := fun _ => true) (held' := true) flatSd h2).1
  clear hA0 hval0
  simp only [List.append_nil] at hW'
  have hc := group_c A0 A1 A2 okA0 okA1 okA2 W
  refine hc.mono fun e W' ⟨he, hg⟩ => ?_
  subst he
  exact ⟨_, rfl, _, _, _, [], [], [], hW', trodAll_mk1 (shut_bool Try.underlying4 _), trodAll_mk3 (Calm.flat_shut (W' := W') flatSd h0).2 (Calm.flat_shut (W' := W') flatSd h1).2 (Calm.flat_shut (W' := W') flatSd h2).2, rfl, hg.frame _, fun h => by cases h⟩

theorem edwardsGroup_holds : Rows.EdwardsGroupSaid :=
  OpenClaim.holds_of_wide 7 Try.f7 rfl rfl rfl rfl rfl rfl rfl ⟨rfl, rfl, rfl, rfl, rfl⟩ rfl rfl rfl rfl rfl (by kernel_rfl) Try.func7 (by kernel_rfl)
    (of_decide_eq_true (by kernel_rfl)) (by unfold Func.isWrapper; first | (rw [if_pos (by decide +kernel)]; kernel_rfl) | (rw [if_neg (by decide +kernel)]; exact ⟨rfl, rfl⟩))
    (fun os started H enc _ => edwardsGroup_lifted os started H enc)
end Go.Proofs.Ytpmplilhifkeaaa
