/-
  LimbRoots: the root of a quotient, or of i times it, is the document's: true for every two elements.
-/
import Derived.Test.YtgjicjmihlcgkaaRows
import Derived.Test.YtgjicjmihlcgkaaOpen
import Derived.Test.YtgjicjmihlcgkaaRootsLaw
import Derived.Test.YtgjicjmihlcgkaaArgs
namespace Go.Proofs.Ytgjicjmihlcgkaa
open Go.ChangeShapes Go.WideShapes Go.ChangeAt Go.RowKit

theorem ownLimbRoots : ownKnob Try.prog.godebug = none := by kernel_rfl
theorem cFeLimbRoots : Try.prog.cellsOf 24 = 4 := by kernel_rfl
theorem c64LimbRoots : Try.prog.cellsOf 22 = 1 := by kernel_rfl

set_option maxRecDepth 100000 in
theorem limbRoots_lifted (os : Os) (started : os.Started) (H : Type) (enc : TypeId × Value → H) :
    ReturnsInHanded {} Try.checked os 3 .any (Rows.limbRootsSpec.pre6 enc Try.prog Try.f3 Rows.limbRootsRow.domain false) (Rows.limbRootsSpec.post enc Try.prog Try.f3 false true false false) := by
  refine returnsInHanded_of_change (C := Try.checked) ownLimbRoots started (by kernel_rfl) Try.func3
    (ChangeSpec.witness6 (enc := enc) (C := Try.checked) false ⟨#[], #[(.agg #[.int .u64 0, .int .u64 0, .int .u64 0, .int .u64 0]), (.agg #[.int .u64 0, .int .u64 0, .int .u64 0, .int .u64 0])], []⟩ 8 (by kernel_rfl) (by kernel_rfl) (by kernel_rfl) (by kernel_rfl)) ?_
  intro W base args ds gs before hval0 hW hcnd _
  have hval : ∀ (j : Nat) t v, Try.f3.params[j]? = some t → args[j]? = some v → Value.okWide Try.prog W .any base t v := hval0
  have hW' := hW
  obtain ⟨p, q, hA0, hV, rfl, hfz, hnd⟩ := hW
  have hA : DataW.TrodAll enc Try.prog W 0 (fun _ => true) true Try.f3.params.toList args.toList ds p := hA0
  rw [Try.params3] at hA hval
  obtain ⟨v0, v1, d0, d1, p0, p1, rfl, rfl, rfl, h0, h1⟩ := trodAll_two hA
  obtain ⟨rfl, rfl⟩ := trodVars_none hV
  obtain ⟨x0, rfl, l0, wf0, rfl, rfl⟩ := Calm.open_ints_arr Try.underlying24 Try.underlying22 c64LimbRoots cFeLimbRoots (hval 0 24 v0 rfl rfl) h0
  obtain ⟨A0, okA0, eA0⟩ := fe_list x0 l0 (fun x hx => bounds_u64 (wf0 x hx))
  obtain ⟨x1, rfl, l1, wf1, rfl, rfl⟩ := Calm.open_ints_arr Try.underlying24 Try.underlying22 c64LimbRoots cFeLimbRoots (hval 1 24 v1 rfl rfl) h1
  obtain ⟨A1, okA1, eA1⟩ := fe_list x1 l1 (fun x hx => bounds_u64 (wf1 x hx))
  clear hA0 hval0
  simp only [List.append_nil] at hW'
  have hc := roots_c A0 A1 okA0 okA1 W
  rw [eA0, eA1] at hc
  refine hc.mono fun e W' ⟨he, hg⟩ => ?_
  subst he
  exact ⟨_, rfl, _, _, _, [], [], [], hW', trodAll_mk1 (shut_bool Try.underlying4 _), trodAll_mk2 (Calm.shut_ints_arr Try.underlying24 Try.underlying22 c64LimbRoots cFeLimbRoots x0 l0 wf0) (Calm.shut_ints_arr Try.underlying24 Try.underlying22 c64LimbRoots cFeLimbRoots x1 l1 wf1), rfl, hg.frame _, fun h => by cases h⟩

theorem limbRoots_holds : Rows.LimbRootsSaid :=
  OpenClaim.holds_of_wide 3 Try.f3 rfl rfl rfl rfl rfl rfl rfl ⟨rfl, rfl, rfl, rfl, rfl⟩ rfl rfl rfl rfl rfl (by kernel_rfl) Try.func3 (by kernel_rfl)
    (of_decide_eq_true (by kernel_rfl)) (by unfold Func.isWrapper; first | (rw [if_pos (by decide +kernel)]; kernel_rfl) | (rw [if_neg (by decide +kernel)]; exact ⟨rfl, rfl⟩))
    (fun os started H enc _ => limbRoots_lifted os started H enc)
end Go.Proofs.Ytgjicjmihlcgkaa
