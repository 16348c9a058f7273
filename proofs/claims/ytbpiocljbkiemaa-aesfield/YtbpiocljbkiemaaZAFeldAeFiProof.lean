/-
  For any three elements:products hang on no order and on no brackets,spread over sums,have no divisors of nought;substitutes are unlike.
-/
import Derived.Test.YtbpiocljbkiemaaRows
import Derived.Test.YtbpiocljbkiemaaZAFeldAeO
import Derived.Test.YtbpiocljbkiemaaZAFeldAeX1
namespace Go.Proofs.Ytbpiocljbkiemaa
open Go.ChangeShapes Go.WideShapes Go.ChangeAt Go.RowKit Go.Ev

theorem ownAesField:ownKnob Try.prog.godebug=none:=by kernel_rfl

set_option maxRecDepth 100000 in
theorem aesField_lifted (os:Os) (started:os.Started) (H:Type) (enc:TypeId×Value→H):
    ReturnsInHanded {} Try.checked os 6 .any (Rows.aesFieldSpec.pre6 enc Try.prog Try.f6 Rows.aesFieldRow.domain false) (Rows.aesFieldSpec.post enc Try.prog Try.f6 false true false false):=by
  refine returnsInHanded_of_change (C:=Try.checked) ownAesField started (by kernel_rfl) Try.func6
    (ChangeSpec.witness6 (enc:=enc) (C:=Try.checked) false ⟨#[], #[(.int .u8 0),(.int .u8 0),(.int .u8 0)],[]⟩ 8 (by kernel_rfl) (by kernel_rfl) (by kernel_rfl) (by kernel_rfl)) ?_
  intro W base args ds gs before hval0 hW hcnd _
  have hval:∀(j:Nat) t v,Try.f6.params[j]? =some t→args[j]? =some v→Value.okWide Try.prog W .any base t v:=hval0
  have hW':=hW
  obtain⟨p,q,hA0,hV,rfl,hfz,hnd⟩:=hW
  have hA:DataW.TrodAll enc Try.prog W 0 (fun _=>true) true Try.f6.params.toList args.toList ds p:=hA0
  rw[Try.params6] at hA hval
  obtain⟨v0,v1,v2,d0,d1,d2,p0,p1,p2,rfl,rfl,rfl,h0,h1,h2⟩:=trodAll_three hA
  obtain⟨rfl,rfl⟩:=trodVars_none hV
  obtain⟨A0,rfl,rfl,rfl,wf0⟩:=open_int Try.underlying5 (hval 0 5 v0 rfl rfl) h0
  have okA0:0≤A0∧A0<256:=by have:=bounds_u8 wf0;omega
  obtain⟨A1,rfl,rfl,rfl,wf1⟩:=open_int Try.underlying5 (hval 1 5 v1 rfl rfl) h1
  have okA1:0≤A1∧A1<256:=by have:=bounds_u8 wf1;omega
  obtain⟨A2,rfl,rfl,rfl,wf2⟩:=open_int Try.underlying5 (hval 2 5 v2 rfl rfl) h2
  have okA2:0≤A2∧A2<256:=by have:=bounds_u8 wf2;omega
  clear hA0 hval0
  simp only[List.append_nil] at hW'
  have hc:=aLf_c A0 A1 A2 okA0 okA1 okA2 W
  refine hc.mono fun e W' ⟨he,hg⟩=> ?_
  subst he
  exact⟨_,rfl,_,_,_,[],[],[],hW',trodAll_mk1 (shut_bool Try.underlying4 _),trodAll_mk3 (shut_int Try.underlying5 wf0) (shut_int Try.underlying5 wf1) (shut_int Try.underlying5 wf2),rfl,hg.frame _,fun h=>by cases h⟩

theorem aesField_holds:Rows.AesFieldSaid:=
  OpenClaim.holds_of_wide 6 Try.f6 rfl rfl rfl rfl rfl rfl rfl ⟨rfl,rfl,rfl,rfl,rfl⟩ rfl rfl rfl rfl rfl (by kernel_rfl) Try.func6 (by kernel_rfl)
    (of_decide_eq_true (by kernel_rfl)) (by unfold Func.isWrapper;first|(rw[if_pos (by decide+kernel)];kernel_rfl)|(rw[if_neg (by decide+kernel)];exact⟨rfl,rfl⟩))
    (fun os started H enc _=>aesField_lifted os started H enc)
end Go.Proofs.Ytbpiocljbkiemaa
