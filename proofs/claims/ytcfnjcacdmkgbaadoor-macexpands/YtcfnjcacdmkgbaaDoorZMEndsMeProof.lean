/-
  MacExpands:of any key and info of at most 2000 bytes and a number,what is expanded is what the document's own words expand:refused alike below nought and above 8160,nothing alike at nought,and the same bytes up to 500;of others it says that Jefe's is what it is. The two tables of constants are read as the program's text lays them (the card ties them).
-/
import Derived.Test.YtcfnjcacdmkgbaaDoorRows
import Derived.Test.YtcfnjcacdmkgbaaDoorTie
import Derived.Test.YtcfnjcacdmkgbaaDoorCards
import Derived.Test.YtcfnjcacdmkgbaaDoorZMEndsMcW1
import Derived.Test.YtcfnjcacdmkgbaaDoorZMEndsByA1
import Derived.Test.YtcfnjcacdmkgbaaDoorZMEndsMcC1
import Derived.ProofKit
import Derived.OpenShut
import Derived.LaidMore
import Derived.Lay
import Derived.SevenTiedAt
import Derived.Stop.Joined
namespace Go.Proofs.YtcfnjcacdmkgbaaDoor
open Go.ChangeShapes Go.WideShapes Go.ChangeAt Go.RowKit Go.Ev
set_option maxRecDepth 100000 in
theorem macExpands_lifted (os : Os) (started : os.Started) (H : Type) (enc : TypeId × Value → H) :
    ReturnsInHanded {} Tryd.checked os 5 .any (fun w args=>(Rows.macExpandsSpec.pre enc Tryd.prog Tryd.f5 Rows.macExpandsRow.domain false w args∧laidMetH Tryd.prog laidS w)∧sizedMet enc Tryd.prog Tryd.f5 (OpenSpec.ofChange Rows.macExpandsSpec) false w args)
      (Rows.macExpandsSpec.post enc Tryd.prog Tryd.f5 false true false false):=by
  refine returnsInHanded_of_change_and (C:=Tryd.checked) (X:=fun w _=>laidMetH Tryd.prog laidS w) (fun _ _ _ hh h=>h.of_heap hh) ownS started (by kernel_rfl) Tryd.func5
    (ChangeSpec.witness_shaped (enc:=enc) (C:=Tryd.checked) (os:=os) (X:=fun w _=>laidMetH Tryd.prog laidS w) false (World.laidAll Tryd.prog os laidS) #[.slice none 0 0,.slice none 0 0,.int .i64 0] 8 (World.laidAll_os _ _ _)
      (World.shaped_of_ZipB (by kernel_rfl) (by kernel_rfl)) (by kernel_rfl) (by kernel_rfl) (by kernel_rfl)
      (by rw[MakeChecks.laidMetH_plain _ _ _ (by kernel_rfl)];exact laidMet_laidAll _ (by kernel_rfl) (by kernel_rfl))) ?_
  intro W base args ds gs before hval0 hW hc _ hL _
  have hval:∀(j:Nat) t v,Tryd.f5.params[j]? =some t→args[j]? =some v→Value.okWide Tryd.prog W .any base t v:=hval0
  have hW':=hW
  obtain⟨p,q,hA0,hV,rfl,_,_⟩:=hW
  have hA:DataW.TrodAll enc Tryd.prog W 0 (fun _=>true) true Tryd.f5.params.toList args.toList ds p:=hA0
  rw[Tryd.params5] at hA hval
  obtain⟨v0,v1,v2,d0,d1,d2,p0,p1,p2,rfl,rfl,rfl,h0,h1,h2⟩:=trodAll_three hA
  obtain⟨rfl,rfl⟩:=trodVars_none hV
  obtain⟨bp,l,cp,N,rfl,hN,hbt,hsrc,hread⟩:=open_bytes (hval 0 22 v0 rfl rfl) h0
  obtain⟨bq,k,cq,M,rfl,hM,hbu,hsrd,hreae⟩:=open_bytes (hval 1 22 v1 rfl rfl) h1
  obtain⟨z,rfl,rfl,rfl,wf2⟩:=open_int Tryd.underlying3 (hval 2 3 v2 rfl rfl) h2
  obtain⟨g0,g1,hH⟩:=laid_at hL
  simp only[List.append_nil] at hW'
  obtain⟨a1,t1,y1,hy1,b1,hb1,hr1⟩:=pick hsrc hbt hH
  obtain⟨a2,t2,y2,hy2,b2,hb2,hr2⟩:=pick hsrd hbu hH
  have hcall:Calls Tryd.prog 5 #[.slice bp l cp,.slice bq k cq,.int .i64 z] W (fun e w'=>e= .returned (.bool true)∧Below W.heap.size W w'):=by
    have hc := Expands_c g0 g1 t1 t2 a1 a2 (b1 2) (b2 3) l cp k cq z (hb1 2 _ rfl) (hb2 3 _ rfl) W (fun i => if i = 2 then y1 else if i = 3 then y2 else i) (has4 hH hy1 hy2) (fun i hi => by
        match i,hi with
        |0,_=>rfl
        |1,_=>rfl
        |i+2,hi=>omega)
    have e1:=hr1 2 (fun i=>if i=2 then y1 else if i=3 then y2 else i) rfl
    have e2:=hr2 3 (fun i=>if i=2 then y1 else if i=3 then y2 else i) rfl
    simp only[List.map_cons,List.map_nil,e1,e2] at hc
    exact hc
  refine hcall.mono fun e W' ⟨he,hg⟩=> ?_
  subst he
  have hr : DataW.Trod enc Tryd.prog W' 0 (fun b => decide (b < W.heap.size)) true 22 (.slice bp l cp) d0 p0 := hread W' _ (fun b o e => by
    rcases hsrc with⟨h1,_⟩|⟨b',o',src,st,h1,hh,_⟩
    · rw[h1] at e;cases e
    · rw [h1] at e
      cases e
      have hlt:=Calm.lt_of_heap hh
      exact⟨hg.block _ hlt,decide_eq_true hlt⟩)
  have hs : DataW.Trod enc Tryd.prog W' 0 (fun b => decide (b < W.heap.size)) true 22 (.slice bq k cq) d1 p1 := hreae W' _ (fun b o e => by
    rcases hsrd with⟨h1,_⟩|⟨b',o',src,st,h1,hh,_⟩
    · rw[h1] at e;cases e
    · rw [h1] at e
      cases e
      have hlt:=Calm.lt_of_heap hh
      exact⟨hg.block _ hlt,decide_eq_true hlt⟩)
  have h3:=trodAll_mk3 hr hs (shut_int Tryd.underlying3 wf2)
  rw[List.append_nil] at h3
  exact⟨_,rfl,_,_,_,[],_,[],hW',trodAll_mk1 (shut_bool Tryd.underlying4 _),h3,rfl,hg.frame _,fun h=>by cases h⟩
theorem macExpands_row:Rows.MacExpandsSaid:=
  OpenClaim.holds_of_wide 5 Tryd.f5 rfl rfl rfl rfl rfl rfl rfl ⟨rfl,rfl,rfl,rfl,rfl⟩ rfl rfl rfl rfl rfl (by kernel_rfl) Tryd.func5 (by kernel_rfl)
    (of_decide_eq_true (by kernel_rfl)) (by unfold Func.isWrapper;first|(rw[if_pos (by decide+kernel)];kernel_rfl)|(rw[if_neg (by decide+kernel)];exact⟨rfl,rfl⟩))
    (fun os started H enc _=>macExpands_lifted os started H enc)
theorem macExpands_holds : Rows.MacExpandsCardSaid :=
  Claim7.holds_tied_plain_at .later [] [.data,.data] true (true, "b98e12d5f4cdedc70fabb0db352f569544988154caa24236ea677caee10b6f3d") false
    macExpands_row (fun _ h=>by cases h) (by kernel_rfl) (fun _ h=>by cases h) macExpands_row_tie rfl ⟨rfl,rfl⟩ (by kernel_rfl) rfl
    (fun f fn hf hfn => by
      obtain rfl:f=5:=Option.some.inj ((show Tryd.prog.funcNamed "vestry/vestrylaw07.MacExpands" =some 5 by kernel_rfl).symm.trans hf) |>.symm
      obtain rfl:fn=Tryd.f5:=(Option.some.inj (Tryd.func5.symm.trans hfn)).symm
      exact⟨by kernel_rfl,fun j t ht=>by
        rw[Tryd.params5] at ht
        have hm:t ∈ [22,22,3]:=by simpa using Array.mem_of_getElem? ht
        have hall:([22,22,3].all fun u=> !Tryd.prog.wantsStandIn u)=true:=by kernel_rfl
        exact(show Tryd.prog.wantsStandIn t=false by simpa using List.all_eq_true.1 hall t hm)⟩)
    (by kernel_rfl)
end Go.Proofs.YtcfnjcacdmkgbaaDoor
