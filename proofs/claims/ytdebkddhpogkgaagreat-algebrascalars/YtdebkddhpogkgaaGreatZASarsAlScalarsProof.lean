/-
  AlgebraScalars:sums,differences,products and the inverse of any scalars,and the scalar of any number,are the document's,or refused:true for any 32 bytes twice and any number of 64 bits.
-/
import Derived.Test.YtdebkddhpogkgaaGreatRows
import Derived.Test.YtdebkddhpogkgaaGreatZASarsEdRAll
import Derived.Test.YtdebkddhpogkgaaGreatZASarsAlAll
namespace Go.Proofs.YtdebkddhpogkgaaGreat
open Go.ChangeShapes Go.WideShapes Go.ChangeAt Go.RowKit

theorem ownAlgebraScalars:ownKnob Tryz.prog.godebug=none:=by kernel_rfl

set_option maxRecDepth 100000 in
theorem algebraScalars_lifted (os:Os) (started:os.Started) (H:Type) (enc:TypeId×Value→H):
    ReturnsInHanded {} Tryz.checked os 3 .any (Rows.algebraScalarsSpec.pre6 enc Tryz.prog Tryz.f3 Rows.algebraScalarsRow.domain false) (Rows.algebraScalarsSpec.post enc Tryz.prog Tryz.f3 false true false false):=by
  refine returnsInHanded_of_change (C:=Tryz.checked) ownAlgebraScalars started (by kernel_rfl) Tryz.func3
    (ChangeSpec.witness6 (enc:=enc) (C:=Tryz.checked) false ⟨#[], #[(.agg #[.int .u8 0,.int .u8 0,.int .u8 0,.int .u8 0,.int .u8 0,.int .u8 0,.int .u8 0,.int .u8 0,.int .u8 0,.int .u8 0,.int .u8 0,.int .u8 0,.int .u8 0,.int .u8 0,.int .u8 0,.int .u8 0,.int .u8 0,.int .u8 0,.int .u8 0,.int .u8 0,.int .u8 0,.int .u8 0,.int .u8 0,.int .u8 0,.int .u8 0,.int .u8 0,.int .u8 0,.int .u8 0,.int .u8 0,.int .u8 0,.int .u8 0,.int .u8 0]),(.agg #[.int .u8 0,.int .u8 0,.int .u8 0,.int .u8 0,.int .u8 0,.int .u8 0,.int .u8 0,.int .u8 0,.int .u8 0,.int .u8 0,.int .u8 0,.int .u8 0,.int .u8 0,.int .u8 0,.int .u8 0,.int .u8 0,.int .u8 0,.int .u8 0,.int .u8 0,.int .u8 0,.int .u8 0,.int .u8 0,.int .u8 0,.int .u8 0,.int .u8 0,.int .u8 0,.int .u8 0,.int .u8 0,.int .u8 0,.int .u8 0,.int .u8 0,.int .u8 0]),(.int .u64 0)],[]⟩ 8 (by kernel_rfl) (by kernel_rfl) (by kernel_rfl) (by kernel_rfl)) ?_
  intro W base args ds gs before hval0 hW hcnd _
  have hval:∀(j:Nat) t v,Tryz.f3.params[j]? =some t→args[j]? =some v→Value.okWide Tryz.prog W .any base t v:=hval0
  have hW':=hW
  obtain⟨p,q,hA0,hV,rfl,hfz,hnd⟩:=hW
  have hA:DataW.TrodAll enc Tryz.prog W 0 (fun _=>true) true Tryz.f3.params.toList args.toList ds p:=hA0
  rw[Tryz.params3] at hA hval
  obtain⟨v0,v1,v2,d0,d1,d2,p0,p1,p2,rfl,rfl,rfl,h0,h1,h2⟩:=trodAll_three hA
  obtain⟨rfl,rfl⟩:=trodVars_none hV
  obtain⟨A0,okA0,rfl⟩:=open_sc (hval 0 23 v0 rfl rfl) h0
  obtain rfl:=(Calm.flat_shut (W':=W) (base':=0) (sp':=fun _=>true) (held':=true) flatSc h0).1
  obtain⟨A1,okA1,rfl⟩:=open_sc (hval 1 23 v1 rfl rfl) h1
  obtain rfl:=(Calm.flat_shut (W':=W) (base':=0) (sp':=fun _=>true) (held':=true) flatSc h1).1
  obtain⟨A2,rfl,rfl,rfl,wf2⟩:=open_int Tryz.underlying24 (hval 2 24 v2 rfl rfl) h2
  have okA2:w64 A2:=by have:=bounds_u64 wf2;unfold w64;omega
  clear hA0 hval0
  simp only[List.append_nil] at hW'
  have hc:=scalars_c A0 A1 A2 okA0 okA1 okA2 W
  refine hc.mono fun e W' ⟨he,hg⟩=> ?_
  subst he
  exact⟨_,rfl,_,_,_,[],[],[],hW',trodAll_mk1 (shut_bool Tryz.underlying4 _),trodAll_mk3 (Calm.flat_shut (W':=W') flatSc h0).2 (Calm.flat_shut (W':=W') flatSc h1).2 (shut_int Tryz.underlying24 wf2),rfl,hg.frame _,fun h=>by cases h⟩

theorem algebraScalars_holds:Rows.AlgebraScalarsSaid:=
  OpenClaim.holds_of_wide 3 Tryz.f3 rfl rfl rfl rfl rfl rfl rfl ⟨rfl,rfl,rfl,rfl,rfl⟩ rfl rfl rfl rfl rfl (by kernel_rfl) Tryz.func3 (by kernel_rfl)
    (of_decide_eq_true (by kernel_rfl)) (by unfold Func.isWrapper;first|(rw[if_pos (by decide+kernel)];kernel_rfl)|(rw[if_neg (by decide+kernel)];exact⟨rfl,rfl⟩))
    (fun os started H enc _=>algebraScalars_lifted os started H enc)
end Go.Proofs.YtdebkddhpogkgaaGreat
