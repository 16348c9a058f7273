/-
  ShaRoots:the document's constants and beginnings are the first bits behind the point of the primes' roots:true for any number of eight bits. The two tables of constants are read as the program's text lays them (the card ties them).
-/
import Derived.Test.YtpmkojinhebihaaDoorRows
import Derived.Test.YtpmkojinhebihaaDoorTie
import Derived.Test.YtpmkojinhebihaaDoorCards
import Derived.Test.YtpmkojinhebihaaDoorZSRotsShV0
import Derived.Test.YtpmkojinhebihaaDoorZSRotsShV1
import Derived.Test.YtpmkojinhebihaaDoorZSRotsShV2
import Derived.Test.YtpmkojinhebihaaDoorZSRotsShV3
import Derived.Test.YtpmkojinhebihaaDoorZSRotsShV4
import Derived.Test.YtpmkojinhebihaaDoorZSRotsShV5
import Derived.Test.YtpmkojinhebihaaDoorZSRotsShV6
import Derived.ProofKit
import Derived.OpenShut
import Derived.LaidMore
import Derived.Lay
import Derived.SevenTiedAt
import Derived.Stop.Joined
namespace Go.Proofs.YtpmkojinhebihaaDoor
open Go.ChangeShapes Go.WideShapes Go.ChangeAt Go.RowKit Go.Ev
theorem ownS:ownKnob Tryd.prog.godebug=none:=by kernel_rfl
abbrev laidS:List (String×DataW Unit):= [("vestry/sha.constants256",Rows.laid_vestry_sha_constants256),("vestry/sha.constants512",Rows.laid_vestry_sha_constants512)]
theorem laid_row {W:World} {T e:TypeId} {n:Nat} {k:IntKind} {fuel:Nat} {cs:Array Value} {p:List MemPlace} {L:List Int} (hT:Tryd.prog.underlying T=some (.array n e)) (he:Tryd.prog.underlying e=some (.int k)) (h1:Tryd.prog.cellsOf e=1) (hn:Tryd.prog.cellsOf T=n) (hL:L.length=n) (hd:DataW.trod (fun _=>()) Tryd.prog W 0 (fun _=>true) false fuel T cs.toList=some (.agg (L.map fun x=> .lit (.int k x)),p)):cs=wA k n L:=by
  obtain⟨xs,m,_,ex,hlen,hl,hel⟩:=DataW.trod_array hT hd
  refine wA_ext (by rw[← Array.length_toList,hlen,hn]) (fun r hr=> ?_)
  have hE:=hel r hr
  rw[h1,Nat.mul_one,List.getElem?_eq_getElem (by omega)] at hE
  obtain⟨z,e1,e2,_⟩:=DataW.trod_int he hE
  have e3:(xs.map (·.1))=L.map fun x=> .lit (.int k x):=(DataW.agg.inj (Prod.mk.inj ex).1).symm
  have e4:(xs.map (·.1))[r]? =(L.map fun x=>(DataW.lit (.int k x):DataW Unit))[r]? :=by rw[e3]
  rw[List.getElem?_map,List.getElem?_map,List.getElem?_eq_getElem (by omega:r<xs.length),List.getElem?_eq_getElem (by omega:r<L.length),e2] at e4
  have hz:z=L.getD r 0:=by
    simp only[Option.map_some,Option.some.injEq,DataW.lit.injEq,Lit.int.injEq,true_and] at e4
    rw[e4,List.getD_eq_getElem?_getD,List.getElem?_eq_getElem (by omega:r<L.length)];rfl
  rw[← hz]
  have:cs.toList[r]? =some (.int k z):=by
    have h0:((cs.toList.drop r).take 1)[0]? =some (.int k z):=by rw[e1];rfl
    simpa using h0
  simpa using this
theorem var_heap {W:World} {n:String} {g:Nat} {cs:Array Value} (hg:Tryd.prog.globalNamed n=some g) (h:W.var? Tryd.prog n=some cs):∃ t:Tq,W.heap[g]? =some (.cells cs t.1 t.2):=by
  simp only[World.var?,hg,Option.bind_some] at h
  split at h
  · rename_i c t f e
    simp only[Option.some.injEq] at h
    subst h
    exact⟨(t,f),e⟩
  · cases h
theorem laid_at {W:World} (h:laidMetH Tryd.prog laidS W):∃ g0 g1:Tq,Has W (fun i=>i) [(wA .u32 64 kL2,g0),(wA .u64 80 kL5,g1)]:=by
  rw[MakeChecks.laidMetH_plain _ _ _ (by kernel_rfl)] at h
  obtain⟨ps,⟨g0,t0,cs0,f0,p0,q0,hg0,ht0,hv0,hd0,⟨g1,t1,cs1,f1,p1,q1,hg1,ht1,hv1,hd1,_,_⟩,_⟩,_,_⟩:=h
  obtain rfl:=Option.some.inj ((show Tryd.prog.globalNamed "vestry/sha.constants256" =some 0 by kernel_rfl).symm.trans hg0)
  obtain rfl:=Option.some.inj ((show Tryd.prog.globalNamed "vestry/sha.constants512" =some 1 by kernel_rfl).symm.trans hg1)
  obtain rfl:=Option.some.inj ((show(Tryd.prog.globals[0]?).map (·.type)=some 58 by kernel_rfl).symm.trans ht0)
  obtain rfl:=Option.some.inj ((show(Tryd.prog.globals[1]?).map (·.type)=some 55 by kernel_rfl).symm.trans ht1)
  have e0:(Rows.laid_vestry_sha_constants256:DataW Unit)= .agg (kL2.map fun x=> .lit (.int .u32 x)):=by kernel_rfl
  have e1:(Rows.laid_vestry_sha_constants512:DataW Unit)= .agg (kL5.map fun x=> .lit (.int .u64 x)):=by kernel_rfl
  rw[e0] at hd0
  rw[e1] at hd1
  have c0:=laid_row Tryd.underlying58 Tryd.underlying38 (by kernel_rfl) (by kernel_rfl) (by kernel_rfl) hd0
  have c1:=laid_row Tryd.underlying55 Tryd.underlying31 (by kernel_rfl) (by kernel_rfl) (by kernel_rfl) hd1
  obtain⟨t0,k0⟩:=var_heap hg0 hv0
  obtain⟨t1,k1⟩:=var_heap hg1 hv1
  rw[c0] at k0
  rw[c1] at k1
  refine⟨t0,t1,fun j x hx=> ?_⟩
  match j,hx with
  | 0, hx =>
    simp only[List.getElem?_cons_zero,Option.some.injEq] at hx
    subst hx
    exact k0
  | 1, hx =>
    simp only[List.getElem?_cons_succ,List.getElem?_cons_zero,Option.some.injEq] at hx
    subst hx
    exact k1
  |j+2,hx=>simp at hx
theorem okC_all (n:Nat) (h:n<80):okC n=true:=by
  have g:∀ a m,(List.range' a m).all okC=true→a≤n→n<a+m→okC n=true:=fun a m h h1 h2=>List.all_eq_true.1 h n (List.mem_range'_1.2 ⟨h1,h2⟩)
  by_cases h0:n<4
  · exact g 0 4 okc0 (by omega) (by omega)
  by_cases h4:n<8
  · exact g 4 4 okc4 (by omega) (by omega)
  by_cases h8:n<12
  · exact g 8 4 okc8 (by omega) (by omega)
  by_cases h12:n<16
  · exact g 12 4 okc12 (by omega) (by omega)
  by_cases h16:n<20
  · exact g 16 4 okc16 (by omega) (by omega)
  by_cases h20:n<24
  · exact g 20 4 okc20 (by omega) (by omega)
  by_cases h24:n<28
  · exact g 24 4 okc24 (by omega) (by omega)
  by_cases h28:n<32
  · exact g 28 4 okc28 (by omega) (by omega)
  by_cases h32:n<36
  · exact g 32 4 okc32 (by omega) (by omega)
  by_cases h36:n<40
  · exact g 36 4 okc36 (by omega) (by omega)
  by_cases h40:n<44
  · exact g 40 4 okc40 (by omega) (by omega)
  by_cases h44:n<48
  · exact g 44 4 okc44 (by omega) (by omega)
  by_cases h48:n<52
  · exact g 48 4 okc48 (by omega) (by omega)
  by_cases h52:n<56
  · exact g 52 4 okc52 (by omega) (by omega)
  by_cases h56:n<60
  · exact g 56 4 okc56 (by omega) (by omega)
  by_cases h60:n<64
  · exact g 60 4 okc60 (by omega) (by omega)
  by_cases h64:n<68
  · exact g 64 4 okc64 (by omega) (by omega)
  by_cases h68:n<72
  · exact g 68 4 okc68 (by omega) (by omega)
  by_cases h72:n<76
  · exact g 72 4 okc72 (by omega) (by omega)
  by_cases h76:n<80
  · exact g 76 4 okc76 (by omega) (by omega)
  omega
theorem okS_all (n:Nat) (h:n<8):okS n=true:=List.all_eq_true.1 oks0 n (List.mem_range.2 h)
set_option maxRecDepth 100000 in
theorem shaRoots_lifted (os:Os) (started:os.Started) (H:Type) (enc:TypeId×Value→H):
    ReturnsInHanded {} Tryd.checked os 6 .any (fun w args=>(Rows.shaRootsSpec.pre enc Tryd.prog Tryd.f6 Rows.shaRootsRow.domain false w args∧laidMetH Tryd.prog laidS w)∧sizedMet enc Tryd.prog Tryd.f6 (OpenSpec.ofChange Rows.shaRootsSpec) false w args)
      (Rows.shaRootsSpec.post enc Tryd.prog Tryd.f6 false true false false):=by
  refine returnsInHanded_of_change_and (C:=Tryd.checked) (X:=fun w _=>laidMetH Tryd.prog laidS w) (fun _ _ _ hh h=>h.of_heap hh) ownS started (by kernel_rfl) Tryd.func6
    (ChangeSpec.witness_shaped (enc:=enc) (C:=Tryd.checked) (os:=os) (X:=fun w _=>laidMetH Tryd.prog laidS w) false (World.laidAll Tryd.prog os laidS) #[.int .u8 0] 8 (World.laidAll_os _ _ _)
      (World.shaped_of_ZipB (by kernel_rfl) (by kernel_rfl)) (by kernel_rfl) (by kernel_rfl) (by kernel_rfl)
      (by rw[MakeChecks.laidMetH_plain _ _ _ (by kernel_rfl)];exact laidMet_laidAll _ (by kernel_rfl) (by kernel_rfl))) ?_
  intro W base args ds gs before hval0 hW hc _ hL _
  have hval:∀(j:Nat) t v,Tryd.f6.params[j]? =some t→args[j]? =some v→Value.okWide Tryd.prog W .any base t v:=hval0
  have hW':=hW
  obtain⟨p,q,hA0,hV,rfl,_,_⟩:=hW
  have hA:DataW.TrodAll enc Tryd.prog W 0 (fun _=>true) true Tryd.f6.params.toList args.toList ds p:=hA0
  rw[Tryd.params6] at hA hval
  obtain⟨v0,d0,rfl,rfl,h0⟩:=trodAll_one hA
  obtain⟨rfl,rfl⟩:=trodVars_none hV
  obtain⟨x,rfl,rfl,rfl,wx⟩:=open_int Tryd.underlying5 (hval 0 5 v0 rfl rfl) h0
  have hx:=bounds_u8 wx
  obtain⟨k,rfl⟩:∃ k:Nat,x=k:=⟨x.toNat,by omega⟩
  obtain⟨g0,g1,hH⟩:=laid_at hL
  simp only[List.append_nil] at hW'
  have hcall:=Roots_c okC_all okS_all g0 g1 k (by omega) W (fun i=>i) hH (fun i _=>rfl)
  refine hcall.mono fun e W' ⟨he,hg⟩=> ?_
  subst he
  exact⟨_,rfl,_,_,_,[],[],[],hW',trodAll_mk1 (shut_bool Tryd.underlying4 _),trodAll_mk1 (shut_int Tryd.underlying5 wx),rfl,hg.frame _,fun h=>by cases h⟩
theorem shaRoots_row:Rows.ShaRootsSaid:=
  OpenClaim.holds_of_wide 6 Tryd.f6 rfl rfl rfl rfl rfl rfl rfl ⟨rfl,rfl,rfl,rfl,rfl⟩ rfl rfl rfl rfl rfl (by kernel_rfl) Tryd.func6 (by kernel_rfl)
    (of_decide_eq_true (by kernel_rfl)) (by unfold Func.isWrapper;first|(rw[if_pos (by decide+kernel)];kernel_rfl)|(rw[if_neg (by decide+kernel)];exact⟨rfl,rfl⟩))
    (fun os started H enc _=>shaRoots_lifted os started H enc)
theorem shaRoots_holds : Rows.ShaRootsCardSaid :=
  Claim7.holds_tied_plain_at .later [] [.data,.data] true (true, "a98b461d2df5b6163ad9d296291d84b08d7920e73e1aa03067e2d0297c9b6b92") false
    shaRoots_row (fun _ h=>by cases h) (by kernel_rfl) (fun _ h=>by cases h) shaRoots_row_tie rfl ⟨rfl,rfl⟩ (by kernel_rfl) rfl
    (fun f fn hf hfn => by
      obtain rfl:f=6:=Option.some.inj ((show Tryd.prog.funcNamed "vestry/vestrylaw06.ShaRoots" =some 6 by kernel_rfl).symm.trans hf) |>.symm
      obtain rfl:fn=Tryd.f6:=(Option.some.inj (Tryd.func6.symm.trans hfn)).symm
      exact⟨by kernel_rfl,fun j t ht=>by
        rw[Tryd.params6] at ht
        have hm:t ∈ [5]:=by simpa using Array.mem_of_getElem? ht
        have hall:([5].all fun u=> !Tryd.prog.wantsStandIn u)=true:=by kernel_rfl
        exact(show Tryd.prog.wantsStandIn t=false by simpa using List.all_eq_true.1 hall t hm)⟩)
    (by kernel_rfl)
end Go.Proofs.YtpmkojinhebihaaDoor
