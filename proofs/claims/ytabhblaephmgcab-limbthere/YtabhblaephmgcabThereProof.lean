/-
  LimbThere: what is written is read, canonical; bytes that are canonical are those that are written: true for every element and every 32 bytes.
-/
import Derived.Test.YtabhblaephmgcabRows
import Derived.Test.YtabhblaephmgcabOpen
import Derived.Test.YtabhblaephmgcabThere
import Derived.Test.YtabhblaephmgcabArgs
namespace Go.Proofs.Ytabhblaephmgcab
open Go.ChangeShapes Go.WideShapes Go.ChangeAt Go.RowKit

theorem ownLimbThere : ownKnob Try.prog.godebug = none := by kernel_rfl
theorem cFeLimbThere : Try.prog.cellsOf 24 = 4 := by kernel_rfl
theorem cByLimbThere : Try.prog.cellsOf 35 = 32 := by kernel_rfl
theorem c8LimbThere : Try.prog.cellsOf 5 = 1 := by kernel_rfl
theorem c64LimbThere : Try.prog.cellsOf 22 = 1 := by kernel_rfl

set_option maxRecDepth 100000 in
theorem limbThere_lifted (os : Os) (started : os.Started) (H : Type) (enc : TypeId × Value → H) :
    ReturnsInHanded {} Try.checked os 5 .any (Rows.limbThereSpec.pre6 enc Try.prog Try.f5 Rows.limbThereRow.domain false) (Rows.limbThereSpec.post enc Try.prog Try.f5 false true false false) := by
  refine returnsInHanded_of_change (C := Try.checked) ownLimbThere started (by kernel_rfl) Try.func5
    (ChangeSpec.witness6 (enc := enc) (C := Try.checked) false ⟨#[], #[(.agg #[.int .u64 0, .int .u64 0, .int .u64 0, .int .u64 0]), (.agg #[.int .u8 0, .int .u8 0, .int .u8 0, .int .u8 0, .int .u8 0, .int .u8 0, .int .u8 0, .int .u8 0, .int .u8 0, .int .u8 0, .int .u8 0, .int .u8 0, .int .u8 0, .int .u8 0, .int .u8 0, .int .u8 0, .int .u8 0, .int .u8 0, .int .u8 0, .int .u8 0, .int .u8 0, .int .u8 0, .int .u8 0, .int .u8 0, .int .u8 0, .int .u8 0, .int .u8 0, .int .u8 0, .int .u8 0, .int .u8 0, .int .u8 0, .int .u8 0])], []⟩ 8 (by kernel_rfl) (by kernel_rfl) (by kernel_rfl) (by kernel_rfl)) ?_
  intro W base args ds gs before hval0 hW hcnd _
  have hval : ∀ (j : Nat) t v, Try.f5.params[j]? = some t → args[j]? = some v → Value.okWide Try.prog W .any base t v := hval0
  have hW' := hW
  obtain ⟨p, q, hA0, hV, rfl, hfz, hnd⟩ := hW
  have hA : DataW.TrodAll enc Try.prog W 0 (fun _ => true) true Try.f5.params.toList args.toList ds p := hA0
  rw [Try.params5] at hA hval
  obtain ⟨v0, v1, d0, d1, p0, p1, rfl, rfl, rfl, h0, h1⟩ := trodAll_two hA
  obtain ⟨rfl, rfl⟩ := trodVars_none hV
  obtain ⟨x0, rfl, l0, wf0, rfl, rfl⟩ := Calm.open_ints_arr Try.underlying24 Try.underlying22 c64LimbThere cFeLimbThere (hval 0 24 v0 rfl rfl) h0
  obtain ⟨A0, okA0, eA0⟩ := fe_list x0 l0 (fun x hx => bounds_u64 (wf0 x hx))
  obtain ⟨x1, rfl, l1, wf1, rfl, rfl⟩ := Calm.open_ints_arr Try.underlying35 Try.underlying5 c8LimbThere cByLimbThere (hval 1 35 v1 rfl rfl) h1
  obtain ⟨A1, okA1, eA1⟩ := by_list x1 l1 (fun x hx => bounds_u8 (wf1 x hx))
  clear hA0 hval0
  simp only [List.append_nil] at hW'
  have hc := there_c A0 A1 okA0 okA1 W
  rw [eA0, eA1] at hc
  refine hc.mono fun e W' ⟨he, hg⟩ => ?_
  subst he
  exact ⟨_, rfl, _, _, _, [], [], [], hW', trodAll_mk1 (shut_bool Try.underlying4 _), trodAll_mk2 (Calm.shut_ints_arr Try.underlying24 Try.underlying22 c64LimbThere cFeLimbThere x0 l0 wf0) (Calm.shut_ints_arr Try.underlying35 Try.underlying5 c8LimbThere cByLimbThere x1 l1 wf1), rfl, hg.frame _, fun h => by cases h⟩

theorem limbThere_holds : Rows.LimbThereSaid :=
  OpenClaim.holds_of_wide 5 Try.f5 rfl rfl rfl rfl rfl rfl rfl ⟨rfl, rfl, rfl, rfl, rfl⟩ rfl rfl rfl rfl rfl (by kernel_rfl) Try.func5 (by kernel_rfl)
    (of_decide_eq_true (by kernel_rfl)) (by unfold Func.isWrapper; first | (rw [if_pos (by decide +kernel)]; kernel_rfl) | (rw [if_neg (by decide +kernel)]; exact ⟨rfl, rfl⟩))
    (fun os started H enc _ => limbThere_lifted os started H enc)
end Go.Proofs.Ytabhblaephmgcab
