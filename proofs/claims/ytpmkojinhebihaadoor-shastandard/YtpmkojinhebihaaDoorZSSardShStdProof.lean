/-
  ShaStandard:the standard's examples,abc,nothing,and a text of two blocks,have the standard's sums:true. The two tables of constants are read as the program's text lays them (the card ties them).
-/
import Derived.Test.YtpmkojinhebihaaDoorRows
import Derived.Test.YtpmkojinhebihaaDoorTie
import Derived.Test.YtpmkojinhebihaaDoorCards
import Derived.Test.YtpmkojinhebihaaDoorZSSardShL
import Derived.ProofKit
import Derived.OpenShut
import Derived.LaidMore
import Derived.Lay
import Derived.SevenTiedAt
import Derived.Stop.Joined
namespace Go.Proofs.YtpmkojinhebihaaDoor
open Go.ChangeShapes Go.WideShapes Go.ChangeAt Go.RowKit Go.Ev
theorem ownS:ownKnob Tryd.prog.godebug=none:=by kernel_rfl
abbrev laidS:List (String×DataW Unit):= [("vestry/sha.constants256",Rows.laid_vestry_sha_constants256),("vestry/sha.constants512",Rows.laid_vestry_sha_constants512)]
theorem laid_row {W:World} {T e:TypeId} {n:Nat} {k:IntKind} {fuel:Nat} {cs:Array Value} {p:List MemPlace} {L:List Int} (hT:Tryd.prog.underlying T=some (.array n e)) (he:Tryd.prog.underlying e=some (.int k)) (h1:Tryd.prog.cellsOf e=1) (hn:Tryd.prog.cellsOf T=n) (hL:L.length=n) (hd:DataW.trod (fun _=>()) Tryd.prog W 0 (fun _=>true) false fuel T cs.toList=some (.agg (L.map fun x=> .lit (.int k x)),p)):cs=wA k n L:=by
  obtain⟨xs,m,_,ex,hlen,hl,hel⟩:=DataW.trod_array hT hd
  refine wA_ext (by rw[← Array.length_toList,hlen,hn]) (fun r hr=> ?_)
  have hE:=hel r hr
  rw[h1,Nat.mul_one,List.getElem?_eq_getElem (by omega)] at hE
  obtain⟨z,e1,e2,_⟩:=DataW.trod_int he hE
  have e3:(xs.map (·.1))=L.map fun x=> .lit (.int k x):=(DataW.agg.inj (Prod.mk.inj ex).1).symm
  have e4:(xs.map (·.1))[r]? =(L.map fun x=>(DataW.lit (.int k x):DataW Unit))[r]? :=by rw[e3]
  rw[List.getElem?_map,List.getElem?_map,List.getElem?_eq_getElem (by omega:r<xs.length),List.getElem?_eq_getElem (by omega:r<L.length),e2] at e4
  have hz:z=L.getD r 0:=by
    simp only[Option.map_some,Option.some.injEq,DataW.lit.injEq,Lit.int.injEq,true_and] at e4
    rw[e4,List.getD_eq_getElem?_getD,List.getElem?_eq_getElem (by omega:r<L.length)];rfl
  rw[← hz]
  have:cs.toList[r]? =some (.int k z):=by
    have h0:((cs.toList.drop r).take 1)[0]? =some (.int k z):=by rw[e1];rfl
    simpa using h0
  simpa using this
theorem var_heap {W:World} {n:String} {g:Nat} {cs:Array Value} (hg:Tryd.prog.globalNamed n=some g) (h:W.var? Tryd.prog n=some cs):∃ t:Tq,W.heap[g]? =some (.cells cs t.1 t.2):=by
  simp only[World.var?,hg,Option.bind_some] at h
  split at h
  · rename_i c t f e
    simp only[Option.some.injEq] at h
    subst h
    exact⟨(t,f),e⟩
  · cases h
theorem laid_at {W:World} (h:laidMetH Tryd.prog laidS W):∃ g0 g1:Tq,Has W (fun i=>i) [(wA .u32 64 kL2,g0),(wA .u64 80 kL5,g1)]:=by
  rw[MakeChecks.laidMetH_plain _ _ _ (by kernel_rfl)] at h
  obtain⟨ps,⟨g0,t0,cs0,f0,p0,q0,hg0,ht0,hv0,hd0,⟨g1,t1,cs1,f1,p1,q1,hg1,ht1,hv1,hd1,_,_⟩,_⟩,_,_⟩:=h
  obtain rfl:=Option.some.inj ((show Tryd.prog.globalNamed "vestry/sha.constants256" =some 0 by kernel_rfl).symm.trans hg0)
  obtain rfl:=Option.some.inj ((show Tryd.prog.globalNamed "vestry/sha.constants512" =some 1 by kernel_rfl).symm.trans hg1)
  obtain rfl:=Option.some.inj ((show(Tryd.prog.globals[0]?).map (·.type)=some 58 by kernel_rfl).symm.trans ht0)
  obtain rfl:=Option.some.inj ((show(Tryd.prog.globals[1]?).map (·.type)=some 55 by kernel_rfl).symm.trans ht1)
  have e0:(Rows.laid_vestry_sha_constants256:DataW Unit)= .agg (kL2.map fun x=> .lit (.int .u32 x)):=by kernel_rfl
  have e1:(Rows.laid_vestry_sha_constants512:DataW Unit)= .agg (kL5.map fun x=> .lit (.int .u64 x)):=by kernel_rfl
  rw[e0] at hd0
  rw[e1] at hd1
  have c0:=laid_row Tryd.underlying58 Tryd.underlying38 (by kernel_rfl) (by kernel_rfl) (by kernel_rfl) hd0
  have c1:=laid_row Tryd.underlying55 Tryd.underlying31 (by kernel_rfl) (by kernel_rfl) (by kernel_rfl) hd1
  obtain⟨t0,k0⟩:=var_heap hg0 hv0
  obtain⟨t1,k1⟩:=var_heap hg1 hv1
  rw[c0] at k0
  rw[c1] at k1
  refine⟨t0,t1,fun j x hx=> ?_⟩
  match j,hx with
  | 0, hx =>
    simp only[List.getElem?_cons_zero,Option.some.injEq] at hx
    subst hx
    exact k0
  | 1, hx =>
    simp only[List.getElem?_cons_succ,List.getElem?_cons_zero,Option.some.injEq] at hx
    subst hx
    exact k1
  |j+2,hx=>simp at hx
set_option maxRecDepth 100000 in
theorem shaStandard_lifted (os:Os) (started:os.Started) (H:Type) (enc:TypeId×Value→H):
    ReturnsInHanded {} Tryd.checked os 5 .any (fun w args=>(Rows.shaStandardSpec.pre enc Tryd.prog Tryd.f5 Rows.shaStandardRow.domain false w args∧laidMetH Tryd.prog laidS w)∧sizedMet enc Tryd.prog Tryd.f5 (OpenSpec.ofChange Rows.shaStandardSpec) false w args)
      (Rows.shaStandardSpec.post enc Tryd.prog Tryd.f5 false true false false):=by
  refine returnsInHanded_of_change_and (C:=Tryd.checked) (X:=fun w _=>laidMetH Tryd.prog laidS w) (fun _ _ _ hh h=>h.of_heap hh) ownS started (by kernel_rfl) Tryd.func5
    (ChangeSpec.witness_shaped (enc:=enc) (C:=Tryd.checked) (os:=os) (X:=fun w _=>laidMetH Tryd.prog laidS w) false (World.laidAll Tryd.prog os laidS) #[] 8 (World.laidAll_os _ _ _)
      (World.shaped_of_ZipB (by kernel_rfl) (by kernel_rfl)) (by kernel_rfl) (by kernel_rfl) (by kernel_rfl)
      (by rw[MakeChecks.laidMetH_plain _ _ _ (by kernel_rfl)];exact laidMet_laidAll _ (by kernel_rfl) (by kernel_rfl))) ?_
  intro W base args ds gs before hval0 hW hc _ hL _
  have hW':=hW
  obtain⟨p,q,hA0,hV,rfl,_,_⟩:=hW
  have hA:DataW.TrodAll enc Tryd.prog W 0 (fun _=>true) true Tryd.f5.params.toList args.toList ds p:=hA0
  rw[Tryd.params5] at hA
  obtain⟨rfl,rfl,rfl⟩:=trodAll_none hA
  obtain⟨rfl,rfl⟩:=trodVars_none hV
  obtain⟨g0,g1,hH⟩:=laid_at hL
  simp only[List.append_nil] at hW'
  have hcall:=Std_c g0 g1 W (fun i=>i) hH (fun i _=>rfl)
  refine hcall.mono fun e W' ⟨he,hg⟩=> ?_
  subst he
  exact⟨_,rfl,_,_,_,[],[],[],hW',trodAll_mk1 (shut_bool Tryd.underlying4 _),trodAll_mk0,rfl,hg.frame _,fun h=>by cases h⟩
theorem shaStandard_row:Rows.ShaStandardSaid:=
  OpenClaim.holds_of_wide 5 Tryd.f5 rfl rfl rfl rfl rfl rfl rfl ⟨rfl,rfl,rfl,rfl,rfl⟩ rfl rfl rfl rfl rfl (by kernel_rfl) Tryd.func5 (by kernel_rfl)
    (of_decide_eq_true (by kernel_rfl)) (by unfold Func.isWrapper;first|(rw[if_pos (by decide+kernel)];kernel_rfl)|(rw[if_neg (by decide+kernel)];exact⟨rfl,rfl⟩))
    (fun os started H enc _=>shaStandard_lifted os started H enc)
theorem shaStandard_holds : Rows.ShaStandardCardSaid :=
  Claim7.holds_tied_plain_at .later [] [.data,.data] true (true, "a98b461d2df5b6163ad9d296291d84b08d7920e73e1aa03067e2d0297c9b6b92") false
    shaStandard_row (fun _ h=>by cases h) (by kernel_rfl) (fun _ h=>by cases h) shaStandard_row_tie rfl ⟨rfl,rfl⟩ (by kernel_rfl) rfl
    (fun f fn hf hfn => by
      obtain rfl:f=5:=Option.some.inj ((show Tryd.prog.funcNamed "vestry/vestrylaw06.ShaStandard" =some 5 by kernel_rfl).symm.trans hf) |>.symm
      obtain rfl:fn=Tryd.f5:=(Option.some.inj (Tryd.func5.symm.trans hfn)).symm
      exact⟨by kernel_rfl,fun j t ht=>by
        rw[Tryd.params5] at ht
        simp at ht⟩)
    (by kernel_rfl)
end Go.Proofs.YtpmkojinhebihaaDoor
