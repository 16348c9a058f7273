/-
  For any element and bytes (at most 300),POLYVAL,and for any key and nonce the two keys,are the document's;the bytes stay,with the byte behind them;with what is known of sealing.
-/
import Derived.Test.YthldpfindbhkeaaRows
import Derived.Test.YthldpfindbhkeaaZSPvalAeO1
import Derived.Test.YthldpfindbhkeaaZSPvalSiL1
namespace Go.Proofs.Ythldpfindbhkeaa
open Go.ChangeShapes Go.WideShapes Go.ChangeAt Go.RowKit Go.Ev

theorem ownSivPolyval:ownKnob Try.prog.godebug=none:=by kernel_rfl

set_option maxRecDepth 100000 in
theorem sivPolyval_lifted (os : Os) (started : os.Started) (H : Type) (enc : TypeId × Value → H) :
    ReturnsInHanded {} Try.checked os 4 .any (Rows.sivPolyvalSpec.pre6 enc Try.prog Try.f4 Rows.sivPolyvalRow.domain false) (Rows.sivPolyvalSpec.post enc Try.prog Try.f4 false true false false):=by
  refine returnsInHanded_of_change (C:=Try.checked) ownSivPolyval started (by kernel_rfl) Try.func4
    (ChangeSpec.witness6 (enc:=enc) (C:=Try.checked) false ⟨#[], #[(.agg #[.int .u8 0,.int .u8 0,.int .u8 0,.int .u8 0,.int .u8 0,.int .u8 0,.int .u8 0,.int .u8 0,.int .u8 0,.int .u8 0,.int .u8 0,.int .u8 0,.int .u8 0,.int .u8 0,.int .u8 0,.int .u8 0]),.slice none 0 0,(.agg #[.int .u8 0,.int .u8 0,.int .u8 0,.int .u8 0,.int .u8 0,.int .u8 0,.int .u8 0,.int .u8 0,.int .u8 0,.int .u8 0,.int .u8 0,.int .u8 0,.int .u8 0,.int .u8 0,.int .u8 0,.int .u8 0,.int .u8 0,.int .u8 0,.int .u8 0,.int .u8 0,.int .u8 0,.int .u8 0,.int .u8 0,.int .u8 0,.int .u8 0,.int .u8 0,.int .u8 0,.int .u8 0,.int .u8 0,.int .u8 0,.int .u8 0,.int .u8 0]),(.agg #[.int .u8 0,.int .u8 0,.int .u8 0,.int .u8 0,.int .u8 0,.int .u8 0,.int .u8 0,.int .u8 0,.int .u8 0,.int .u8 0,.int .u8 0,.int .u8 0])],[]⟩ 8 (by kernel_rfl) (by kernel_rfl) (by kernel_rfl) (by kernel_rfl)) ?_
  intro W base args ds gs before hval0 hW hcnd _
  have hval:∀(j:Nat) t v,Try.f4.params[j]? =some t→args[j]? =some v→Value.okWide Try.prog W .any base t v:=hval0
  have hW':=hW
  obtain⟨p,q,hA0,hV,rfl,hfz,hnd⟩:=hW
  have hA:DataW.TrodAll enc Try.prog W 0 (fun _=>true) true Try.f4.params.toList args.toList ds p:=hA0
  rw[Try.params4] at hA hval
  obtain⟨v0,v1,v2,v3,d0,d1,d2,d3,p0,p1,p2,p3,rfl,rfl,rfl,h0,h1,h2,h3⟩:=trodAll_four hA
  obtain⟨rfl,rfl⟩:=trodVars_none hV
  obtain⟨A0,okA0,rfl⟩:=open_bB (hval 0 22 v0 rfl rfl) h0
  obtain rfl:=(Calm.flat_shut (W':=W) (base':=0) (sp':=fun _=>true) (held':=true) flatB16 h0).1
  obtain⟨bp,l,cp,N,rfl,hN,hbt,hsrc,hread⟩:=open_bytes (hval 1 26 v1 rfl rfl) h1
  obtain⟨A2,okA2,rfl⟩:=open_bK (hval 2 27 v2 rfl rfl) h2
  obtain rfl:=(Calm.flat_shut (W':=W) (base':=0) (sp':=fun _=>true) (held':=true) flatK h2).1
  obtain⟨A3,okA3,rfl⟩:=open_bN (hval 3 28 v3 rfl rfl) h3
  obtain rfl:=(Calm.flat_shut (W':=W) (base':=0) (sp':=fun _=>true) (held':=true) flatB12 h3).1
  clear hA0 hval0
  simp only[List.append_nil] at hW'
  have hcall : Calls Try.prog 4 #[.agg (wA .u8 16 A0), .slice bp l cp, .agg (wA .u8 32 A2), .agg (wA .u8 12 A3)] W (fun e w' => e = .returned (.bool true) ∧ Below W.heap.size W w') := by
    rcases hsrc with⟨rfl,rfl,rfl,rfl⟩|⟨b,o,src,st,rfl,hh,hcp,hz,hcell⟩
    · exact sLp_n A0 A2 A3 okA0 okA2 okA3 W
    · have hb : bytesAt src o l := fun j hj => by
        have e:iat src (o+j)=N.getD j 0:=by unfold iat;rw[hcell j hj]
        rw[e]
        exact⟨hcell j hj,hbt j hj⟩
      exact sLp_s src st (some ⟨0,o,none⟩) l cp A0 A2 A3 okA0 okA2 okA3 ⟨hcp,.inr ⟨0,o,src,st,rfl,rfl,hb,hz⟩⟩ W (fun _=>b) (fun i x hx=>by
        match i,hx with
        | 0, hx =>
          simp only[List.getElem?_cons_zero,Option.some.injEq] at hx
          subst hx
          exact hh
        |i+1,hx=>simp at hx) (fun i hi=>by simp at hi)
  refine hcall.mono fun e W' ⟨he,hg⟩=> ?_
  subst he
  have hr : DataW.Trod enc Try.prog W' 0 (fun b => decide (b < W.heap.size)) true 26 (.slice bp l cp) d1 p1 := hread W' _ (fun b o e => by
    rcases hsrc with⟨h1,_⟩|⟨b',o',src,st,h1,hh,_⟩
    · rw[h1] at e;cases e
    · rw [h1] at e
      cases e
      have hlt:=Calm.lt_of_heap hh
      exact⟨hg.block _ hlt,decide_eq_true hlt⟩)
  have hm:=trodAll_mk4 (Calm.flat_shut (W':=W') (base':=0) (sp':=fun b=>decide (b<W.heap.size)) (held':=true) flatB16 h0).2 hr (Calm.flat_shut (W':=W') (base':=0) (sp':=fun b=>decide (b<W.heap.size)) (held':=true) flatK h2).2 (Calm.flat_shut (W':=W') (base':=0) (sp':=fun b=>decide (b<W.heap.size)) (held':=true) flatB12 h3).2
  simp only[List.append_nil,List.nil_append] at hm
  exact⟨_,rfl,_,_,_,[],_,[],hW',trodAll_mk1 (shut_bool Try.underlying4 _),hm,rfl,hg.frame _,fun h=>by cases h⟩

theorem sivPolyval_holds:Rows.SivPolyvalSaid:=
  OpenClaim.holds_of_wide 4 Try.f4 rfl rfl rfl rfl rfl rfl rfl ⟨rfl,rfl,rfl,rfl,rfl⟩ rfl rfl rfl rfl rfl (by kernel_rfl) Try.func4 (by kernel_rfl)
    (of_decide_eq_true (by kernel_rfl)) (by unfold Func.isWrapper;first|(rw[if_pos (by decide+kernel)];kernel_rfl)|(rw[if_neg (by decide+kernel)];exact⟨rfl,rfl⟩))
    (fun os started H enc _=>sivPolyval_lifted os started H enc)
end Go.Proofs.Ythldpfindbhkeaa
