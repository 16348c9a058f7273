/-
  Sha512:the sum of any bytes is what the document makes of them,block by block,and they stay as they were,with the byte behind them;of more than 4096 bytes it says that abc has the sum it has. The two tables of constants are read as the program's text lays them (the card ties them).
-/
import Derived.Test.YteikpadpogkepaaDoorRows
import Derived.Test.YteikpadpogkepaaDoorTie
import Derived.Test.YteikpadpogkepaaDoorCards
import Derived.Test.YteikpadpogkepaaDoorZS512SdS1
import Derived.Test.YteikpadpogkepaaDoorZS512ByA1
import Derived.ProofKit
import Derived.OpenShut
import Derived.LaidMore
import Derived.Lay
import Derived.SevenTiedAt
import Derived.Stop.Joined
namespace Go.Proofs.YteikpadpogkepaaDoor
open Go.ChangeShapes Go.WideShapes Go.ChangeAt Go.RowKit Go.Ev
set_option maxRecDepth 100000 in
theorem sha512_lifted (os : Os) (started : os.Started) (H : Type) (enc : TypeId × Value → H) :
    ReturnsInHanded {} Tryd.checked os 4 .any (fun w args=>(Rows.sha512Spec.pre enc Tryd.prog Tryd.f4 Rows.sha512Row.domain false w args∧laidMetH Tryd.prog laidS w)∧sizedMet enc Tryd.prog Tryd.f4 (OpenSpec.ofChange Rows.sha512Spec) false w args)
      (Rows.sha512Spec.post enc Tryd.prog Tryd.f4 false true false false):=by
  refine returnsInHanded_of_change_and (C:=Tryd.checked) (X:=fun w _=>laidMetH Tryd.prog laidS w) (fun _ _ _ hh h=>h.of_heap hh) ownS started (by kernel_rfl) Tryd.func4
    (ChangeSpec.witness_shaped (enc:=enc) (C:=Tryd.checked) (os:=os) (X:=fun w _=>laidMetH Tryd.prog laidS w) false (World.laidAll Tryd.prog os laidS) #[.slice none 0 0] 8 (World.laidAll_os _ _ _)
      (World.shaped_of_ZipB (by kernel_rfl) (by kernel_rfl)) (by kernel_rfl) (by kernel_rfl) (by kernel_rfl)
      (by rw[MakeChecks.laidMetH_plain _ _ _ (by kernel_rfl)];exact laidMet_laidAll _ (by kernel_rfl) (by kernel_rfl))) ?_
  intro W base args ds gs before hval0 hW hc _ hL _
  have hval:∀(j:Nat) t v,Tryd.f4.params[j]? =some t→args[j]? =some v→Value.okWide Tryd.prog W .any base t v:=hval0
  have hW':=hW
  obtain⟨p,q,hA0,hV,rfl,_,_⟩:=hW
  have hA:DataW.TrodAll enc Tryd.prog W 0 (fun _=>true) true Tryd.f4.params.toList args.toList ds p:=hA0
  rw[Tryd.params4] at hA hval
  obtain⟨v0,d0,rfl,rfl,h0⟩:=trodAll_one hA
  obtain⟨rfl,rfl⟩:=trodVars_none hV
  obtain⟨bp,l,cp,N,rfl,hN,hbt,hsrc,hread⟩:=open_bytes (hval 0 22 v0 rfl rfl) h0
  obtain⟨g0,g1,hH⟩:=laid_at hL
  simp only[List.append_nil] at hW'
  have hcall : Calls Tryd.prog 4 #[.slice bp l cp] W (fun e w' => e = .returned (.bool true) ∧ Below W.heap.size W w') := by
    rcases hsrc with⟨rfl,rfl,rfl,rfl⟩|⟨b,o,src,st,rfl,hh,hcp,hz,hcell⟩
    · exact LawSha5_nil g0 g1 W (fun i=>i) hH (fun i _=>rfl)
    · have hb : bytesAt src o l := fun j hj => by
        have e:iat src (o+j)=N.getD j 0:=by unfold iat;rw[hcell j hj]
        rw[e]
        exact⟨hcell j hj,hbt j hj⟩
      exact LawSha5_some g0 g1 st src o l cp hb hz hcp W (fun i=>if i=2 then b else i) (has3 hH hh) (fun i hi=>by
        match i,hi with
        |0,_=>rfl
        |1,_=>rfl
        |i+2,hi=>omega)
  refine hcall.mono fun e W' ⟨he,hg⟩=> ?_
  subst he
  have hr : DataW.Trod enc Tryd.prog W' 0 (fun b => decide (b < W.heap.size)) true 22 (.slice bp l cp) d0 p := hread W' _ (fun b o e => by
    rcases hsrc with⟨h1,_⟩|⟨b',o',src,st,h1,hh,_⟩
    · rw[h1] at e;cases e
    · rw [h1] at e
      cases e
      have hlt:=Calm.lt_of_heap hh
      exact⟨hg.block _ hlt,decide_eq_true hlt⟩)
  exact⟨_,rfl,_,_,_,[],p,[],hW',trodAll_mk1 (shut_bool Tryd.underlying4 _),trodAll_mk1 hr,rfl,hg.frame _,fun h=>by cases h⟩
theorem sha512_row:Rows.Sha512Said:=
  OpenClaim.holds_of_wide 4 Tryd.f4 rfl rfl rfl rfl rfl rfl rfl ⟨rfl,rfl,rfl,rfl,rfl⟩ rfl rfl rfl rfl rfl (by kernel_rfl) Tryd.func4 (by kernel_rfl)
    (of_decide_eq_true (by kernel_rfl)) (by unfold Func.isWrapper;first|(rw[if_pos (by decide+kernel)];kernel_rfl)|(rw[if_neg (by decide+kernel)];exact⟨rfl,rfl⟩))
    (fun os started H enc _=>sha512_lifted os started H enc)
theorem sha512_holds : Rows.Sha512CardSaid :=
  Claim7.holds_tied_plain_at .later [] [.data,.data] true (true, "b7e84998ea9af9d93d97e3deef9a81726502dab0c07cae3fd782cccb8f8bf62e") false
    sha512_row (fun _ h=>by cases h) (by kernel_rfl) (fun _ h=>by cases h) sha512_row_tie rfl ⟨rfl,rfl⟩ (by kernel_rfl) rfl
    (fun f fn hf hfn => by
      obtain rfl:f=4:=Option.some.inj ((show Tryd.prog.funcNamed "vestry/vestrylaw06.Sha512" =some 4 by kernel_rfl).symm.trans hf) |>.symm
      obtain rfl:fn=Tryd.f4:=(Option.some.inj (Tryd.func4.symm.trans hfn)).symm
      exact⟨by kernel_rfl,fun j t ht=>by
        rw[Tryd.params4] at ht
        have hm:t ∈ [22]:=by simpa using Array.mem_of_getElem? ht
        have hall:([22].all fun u=> !Tryd.prog.wantsStandIn u)=true:=by kernel_rfl
        exact(show Tryd.prog.wantsStandIn t=false by simpa using List.all_eq_true.1 hall t hm)⟩)
    (by kernel_rfl)
end Go.Proofs.YteikpadpogkepaaDoor
