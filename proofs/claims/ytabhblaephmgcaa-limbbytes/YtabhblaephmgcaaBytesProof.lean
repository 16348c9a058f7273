/-
  LimbBytes: writing and reading are the document's: true for every element and every 32 bytes.
-/
import Derived.Test.YtabhblaephmgcaaRows
import Derived.Test.YtabhblaephmgcaaOpen
import Derived.Test.YtabhblaephmgcaaBytesLaw
import Derived.Test.YtabhblaephmgcaaArgs
namespace Go.Proofs.Ytabhblaephmgcaa
open Go.ChangeShapes Go.WideShapes Go.ChangeAt Go.RowKit

theorem ownLimbBytes : ownKnob Try.prog.godebug = none := by kernel_rfl
theorem cFeLimbBytes : Try.prog.cellsOf 24 = 4 := by kernel_rfl
theorem cByLimbBytes : Try.prog.cellsOf 50 = 32 := by kernel_rfl
theorem c8LimbBytes : Try.prog.cellsOf 5 = 1 := by kernel_rfl
theorem c64LimbBytes : Try.prog.cellsOf 22 = 1 := by kernel_rfl

set_option maxRecDepth 100000 in
theorem limbBytes_lifted (os : Os) (started : os.Started) (H : Type) (enc : TypeId × Value → H) :
    ReturnsInHanded {} Try.checked os 8 .any (Rows.limbBytesSpec.pre6 enc Try.prog Try.f8 Rows.limbBytesRow.domain false) (Rows.limbBytesSpec.post enc Try.prog Try.f8 false true false false) := by
  refine returnsInHanded_of_change (C := Try.checked) ownLimbBytes started (by kernel_rfl) Try.func8
    (ChangeSpec.witness6 (enc := enc) (C := Try.checked) false ⟨#[], #[(.agg #[.int .u64 0, .int .u64 0, .int .u64 0, .int .u64 0]), (.agg #[.int .u8 0, .int .u8 0, .int .u8 0, .int .u8 0, .int .u8 0, .int .u8 0, .int .u8 0, .int .u8 0, .int .u8 0, .int .u8 0, .int .u8 0, .int .u8 0, .int .u8 0, .int .u8 0, .int .u8 0, .int .u8 0, .int .u8 0, .int .u8 0, .int .u8 0, .int .u8 0, .int .u8 0, .int .u8 0, .int .u8 0, .int .u8 0, .int .u8 0, .int .u8 0, .int .u8 0, .int .u8 0, .int .u8 0, .int .u8 0, .int .u8 0, .int .u8 0])], []⟩ 8 (by kernel_rfl) (by kernel_rfl) (by kernel_rfl) (by kernel_rfl)) ?_
  intro W base args ds gs before hval0 hW hcnd _
  have hval : ∀ (j : Nat) t v, Try.f8.params[j]? = some t → args[j]? = some v → Value.okWide Try.prog W .any base t v := hval0
  have hW' := hW
  obtain ⟨p, q, hA0, hV, rfl, hfz, hnd⟩ := hW
  have hA : DataW.TrodAll enc Try.prog W 0 (fun _ => true) true Try.f8.params.toList args.toList ds p := hA0
  rw [Try.params8] at hA hval
  obtain ⟨v0, v1, d0, d1, p0, p1, rfl, rfl, rfl, h0, h1⟩ := trodAll_two hA
  obtain ⟨rfl, rfl⟩ := trodVars_none hV
  obtain ⟨x0, rfl, l0, wf0, rfl, rfl⟩ := Calm.open_ints_arr Try.underlying24 Try.underlying22 c64LimbBytes cFeLimbBytes (hval 0 24 v0 rfl rfl) h0
  obtain ⟨A0, okA0, eA0⟩ := fe_list x0 l0 (fun x hx => bounds_u64 (wf0 x hx))
  obtain ⟨x1, rfl, l1, wf1, rfl, rfl⟩ := Calm.open_ints_arr Try.underlying50 Try.underlying5 c8LimbBytes cByLimbBytes (hval 1 50 v1 rfl rfl) h1
  obtain ⟨A1, okA1, eA1⟩ := by_list x1 l1 (fun x hx => bounds_u8 (wf1 x hx))
  clear hA0 hval0
  simp only [List.append_nil] at hW'
  have hc := bytes_c A0 A1 okA0 okA1 W
  rw [eA0, eA1] at hc
  refine hc.mono fun e W' ⟨he, hg⟩ => ?_
  subst he
  exact ⟨_, rfl, _, _, _, [], [], [], hW', trodAll_mk1 (shut_bool Try.underlying4 _), trodAll_mk2 (Calm.shut_ints_arr Try.underlying24 Try.underlying22 c64LimbBytes cFeLimbBytes x0 l0 wf0) (Calm.shut_ints_arr Try.underlying50 Try.underlying5 c8LimbBytes cByLimbBytes x1 l1 wf1), rfl, hg.frame _, fun h => by cases h⟩

theorem limbBytes_holds : Rows.LimbBytesSaid :=
  OpenClaim.holds_of_wide 8 Try.f8 rfl rfl rfl rfl rfl rfl rfl ⟨rfl, rfl, rfl, rfl, rfl⟩ rfl rfl rfl rfl rfl (by kernel_rfl) Try.func8 (by kernel_rfl)
    (of_decide_eq_true (by kernel_rfl)) (by unfold Func.isWrapper; first | (rw [if_pos (by decide +kernel)]; kernel_rfl) | (rw [if_neg (by decide +kernel)]; exact ⟨rfl, rfl⟩))
    (fun os started H enc _ => limbBytes_lifted os started H enc)
end Go.Proofs.Ytabhblaephmgcaa
