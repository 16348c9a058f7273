/-
  For any key and blocks:unlike blocks stay unlike,also where they differ in one bit.
-/
import Derived.Test.YtbpiocljbkiemaaRows
import Derived.Test.YtbpiocljbkiemaaZAUikeAeO
import Derived.Test.YtbpiocljbkiemaaZAUikeAeX1
namespace Go.Proofs.Ytbpiocljbkiemaa
open Go.ChangeShapes Go.WideShapes Go.ChangeAt Go.RowKit Go.Ev

theorem ownAesUnlike:ownKnob Try.prog.godebug=none:=by kernel_rfl

set_option maxRecDepth 100000 in
theorem aesUnlike_lifted (os:Os) (started:os.Started) (H:Type) (enc:TypeId×Value→H):
    ReturnsInHanded {} Try.checked os 7 .any (Rows.aesUnlikeSpec.pre6 enc Try.prog Try.f7 Rows.aesUnlikeRow.domain false) (Rows.aesUnlikeSpec.post enc Try.prog Try.f7 false true false false):=by
  refine returnsInHanded_of_change (C:=Try.checked) ownAesUnlike started (by kernel_rfl) Try.func7
    (ChangeSpec.witness6 (enc:=enc) (C:=Try.checked) false ⟨#[], #[(.agg #[.int .u8 0,.int .u8 0,.int .u8 0,.int .u8 0,.int .u8 0,.int .u8 0,.int .u8 0,.int .u8 0,.int .u8 0,.int .u8 0,.int .u8 0,.int .u8 0,.int .u8 0,.int .u8 0,.int .u8 0,.int .u8 0,.int .u8 0,.int .u8 0,.int .u8 0,.int .u8 0,.int .u8 0,.int .u8 0,.int .u8 0,.int .u8 0,.int .u8 0,.int .u8 0,.int .u8 0,.int .u8 0,.int .u8 0,.int .u8 0,.int .u8 0,.int .u8 0]),(.agg #[.int .u8 0,.int .u8 0,.int .u8 0,.int .u8 0,.int .u8 0,.int .u8 0,.int .u8 0,.int .u8 0,.int .u8 0,.int .u8 0,.int .u8 0,.int .u8 0,.int .u8 0,.int .u8 0,.int .u8 0,.int .u8 0]),(.agg #[.int .u8 0,.int .u8 0,.int .u8 0,.int .u8 0,.int .u8 0,.int .u8 0,.int .u8 0,.int .u8 0,.int .u8 0,.int .u8 0,.int .u8 0,.int .u8 0,.int .u8 0,.int .u8 0,.int .u8 0,.int .u8 0]),(.int .u8 0)],[]⟩ 8 (by kernel_rfl) (by kernel_rfl) (by kernel_rfl) (by kernel_rfl)) ?_
  intro W base args ds gs before hval0 hW hcnd _
  have hval:∀(j:Nat) t v,Try.f7.params[j]? =some t→args[j]? =some v→Value.okWide Try.prog W .any base t v:=hval0
  have hW':=hW
  obtain⟨p,q,hA0,hV,rfl,hfz,hnd⟩:=hW
  have hA:DataW.TrodAll enc Try.prog W 0 (fun _=>true) true Try.f7.params.toList args.toList ds p:=hA0
  rw[Try.params7] at hA hval
  obtain⟨v0,v1,v2,v3,d0,d1,d2,d3,p0,p1,p2,p3,rfl,rfl,rfl,h0,h1,h2,h3⟩:=trodAll_four hA
  obtain⟨rfl,rfl⟩:=trodVars_none hV
  obtain⟨A0,okA0,rfl⟩:=open_bK (hval 0 26 v0 rfl rfl) h0
  obtain rfl:=(Calm.flat_shut (W':=W) (base':=0) (sp':=fun _=>true) (held':=true) flatK h0).1
  obtain⟨A1,okA1,rfl⟩:=open_bB (hval 1 31 v1 rfl rfl) h1
  obtain rfl:=(Calm.flat_shut (W':=W) (base':=0) (sp':=fun _=>true) (held':=true) flatB16 h1).1
  obtain⟨A2,okA2,rfl⟩:=open_bB (hval 2 31 v2 rfl rfl) h2
  obtain rfl:=(Calm.flat_shut (W':=W) (base':=0) (sp':=fun _=>true) (held':=true) flatB16 h2).1
  obtain⟨A3,rfl,rfl,rfl,wf3⟩:=open_int Try.underlying5 (hval 3 5 v3 rfl rfl) h3
  have okA3:0≤A3∧A3<256:=by have:=bounds_u8 wf3;omega
  clear hA0 hval0
  simp only[List.append_nil] at hW'
  have hc:=aLu_c A0 A1 A2 A3 okA0 okA1 okA2 okA3 W
  refine hc.mono fun e W' ⟨he,hg⟩=> ?_
  subst he
  exact⟨_,rfl,_,_,_,[],[],[],hW',trodAll_mk1 (shut_bool Try.underlying4 _),trodAll_mk4 (Calm.flat_shut (W':=W') flatK h0).2 (Calm.flat_shut (W':=W') flatB16 h1).2 (Calm.flat_shut (W':=W') flatB16 h2).2 (shut_int Try.underlying5 wf3),rfl,hg.frame _,fun h=>by cases h⟩

theorem aesUnlike_holds:Rows.AesUnlikeSaid:=
  OpenClaim.holds_of_wide 7 Try.f7 rfl rfl rfl rfl rfl rfl rfl ⟨rfl,rfl,rfl,rfl,rfl⟩ rfl rfl rfl rfl rfl (by kernel_rfl) Try.func7 (by kernel_rfl)
    (of_decide_eq_true (by kernel_rfl)) (by unfold Func.isWrapper;first|(rw[if_pos (by decide+kernel)];kernel_rfl)|(rw[if_neg (by decide+kernel)];exact⟨rfl,rfl⟩))
    (fun os started H enc _=>aesUnlike_lifted os started H enc)
end Go.Proofs.Ytbpiocljbkiemaa
