import Derived.Test.YtcfnjcacdmkgbaaDoorZMEndsSdA1
import Derived.ProofKit
import Derived.OpenShut
import Derived.ChangeSlices
import Derived.Test.YtcfnjcacdmkgbaaDoorRows
import Derived.Test.YtcfnjcacdmkgbaaDoorTie
import Derived.Test.YtcfnjcacdmkgbaaDoorCards
import Derived.LaidMore
import Derived.Lay
import Derived.SevenTiedAt
import Derived.Stop.Joined
set_option linter.unusedSimpArgs false
set_option linter.unusedVariables false
/-! Bytes that are handed in. -/
namespace Go.Proofs.YtcfnjcacdmkgbaaDoor
open Go.RowKit Go.Ev Go.ChangeShapes Go.WideShapes
theorem rowAt_off {P : Program} {fits : TypeId → Bool} : ∀ (d : Nat) {e : TypeId} {count off n : Nat}, Go.rowAt P fits d e count off n = true → off ≤ count * P.cellsOf e
  |0,_,_,_,_,h=>by simp[Go.rowAt] at h
  | d + 1, e, count, off, n, h => by
    unfold Go.rowAt at h
    simp only at h
    split at h
    · cases h
    · rename_i hs
      have hdm:=Nat.div_add_mod off (P.cellsOf e)
      have hm:off%P.cellsOf e<P.cellsOf e:=Nat.mod_lt _ (by omega)
      have key:off / P.cellsOf e<count→off≤count*P.cellsOf e:=fun h=>by
        have:=Nat.mul_le_mul_right (P.cellsOf e) (show off / P.cellsOf e+1≤count from h)
        rw[Nat.add_mul,Nat.one_mul,Nat.mul_comm (off / P.cellsOf e)] at this
        omega
      rcases(Bool.or_eq_true _ _ ▸ h) with h|h
      · simp only [Bool.and_eq_true, beq_iff_eq, decide_eq_true_eq] at h
        obtain⟨⟨h1,h2⟩,_⟩:=h
        have:=Nat.mul_le_mul_right (P.cellsOf e) (show off / P.cellsOf e≤count by omega)
        rw[Nat.mul_comm (off / P.cellsOf e)] at this
        omega
      · rw [Bool.and_eq_true, decide_eq_true_eq] at h
        exact key h.1
theorem liesAt_off {P:Program}:∀(d:Nat) {e u:TypeId} {count off n:Nat},liesAt P d e count off u n=true→off≤count*P.cellsOf e
  |0,_,_,_,_,_,h=>by simp[liesAt] at h
  | d + 1, e, u, count, off, n, h => by
    unfold liesAt at h
    rcases(Bool.or_eq_true _ _ ▸ h) with h|h
    · exact rowAt_off _ h
    · split at h
      · exact liesAt_off d h
      · cases h
theorem has_off {P:Program} {w:World} {r:Reach} {base:Nat} {a:Addr} {e:TypeId} {n:Nat} (h:w.has P r base a e n):a.spot=none∧∃(cs:Array Value) (st:Tq),w.heap[a.block]? =some (.cells cs st.1 st.2)∧a.off≤cs.size:=by
  obtain⟨_,hs,row,cells,hsh,hl⟩:=h
  refine⟨hs,?_⟩
  unfold World.shape? at hsh
  split at hsh
  · rename_i c elem fr e1
    simp only[Option.some.injEq,Prod.mk.injEq] at hsh
    obtain⟨rfl,rfl⟩:=hsh
    exact⟨c,(elem,fr),e1,Nat.le_trans (liesAt_off _ hl) (Nat.div_mul_le_self _ _)⟩
  · cases hsh
theorem okWide_has {P:Program} {w:World} {r:Reach} {base:Nat} {t e:TypeId} {a:Addr} {len cap:Nat} (ht:P.underlying t=some (.slice e)) (h:Value.okWide P w r base t (.slice (some a) len cap)):w.has P r base a e cap:=by
  unfold Value.okWide at h
  rw[ht] at h
  simp only at h
  unfold Cell.okWide at h
  rw[ht] at h
  simp only at h
  unfold Cell.ok at h
  rw[ht] at h
  simp only at h
  exact h.2.2
theorem open_bytes {H : Type} {enc : TypeId × Value → H} {W : World} {r : Reach} {base : Nat} {held : Bool} {v : Value} {d : DataW H} {ps : List MemPlace} (hval : Value.okWide Tryd.prog W r base 22 v) (hd : DataW.Trod enc Tryd.prog W 0 (fun _ => true) held 22 v d ps) :
    ∃ (bp : Option Addr) (l cp : Nat) (N : List Int), v = .slice bp l cp ∧ N.length = l ∧ (∀ i, i < l → 0 ≤ N.getD i 0 ∧ N.getD i 0 < 256) ∧
      ((bp=none∧l=0∧cp=0∧N= [])∨∃(b o:Nat) (src:Array Value) (st:Tq),bp=some ⟨b,o,none⟩∧W.heap[b]? =some (.cells src st.1 st.2)∧l≤cp∧o+l≤src.size∧∀ i,i<l→src[o+i]? =some (.int .u8 (N.getD i 0)))∧
      ∀(W':World) (sp:Nat→Bool),(∀ b o,bp=some ⟨b,o,none⟩→W'.heap[b]? =W.heap[b]? ∧sp b=true)→DataW.Trod enc Tryd.prog W' 0 sp held 22 v d ps:=by
  obtain⟨a0,len,cap,rfl⟩:=okWide_slice Tryd.underlying22 hval
  obtain⟨fuel,hf⟩:=hd
  have hc:Tryd.prog.cellsOf 5=1:=by kernel_rfl
  rcases open_ints Tryd.underlying22 Tryd.underlying5 hc hf with⟨h1,h2⟩|⟨a,len',cap',zs,h1,_,hle,hmax,hall,hx,hcell,hwf⟩
  · simp [Value.cells] at h1
    obtain⟨rfl,rfl,rfl⟩:=h1
    simp only[Prod.mk.injEq] at h2
    obtain⟨rfl,rfl⟩:=h2
    refine⟨none,0,0,[],rfl,rfl,fun i hi=>by omega,.inl ⟨rfl,rfl,rfl,rfl⟩,fun W' sp _=>⟨fuel,?_⟩⟩
    cases fuel with
    |zero=>simp[DataW.trod] at hf
    |succ n=>simp[DataW.trod,Value.cells,Tryd.underlying22]
  · simp [Value.cells] at h1
    obtain⟨rfl,rfl,rfl⟩:=h1
    simp only[Prod.mk.injEq] at hx
    obtain⟨rfl,rfl⟩:=hx
    simp only[if_true] at hall
    obtain⟨hs,src,st,hh,hoff⟩:=has_off (okWide_has Tryd.underlying22 hval)
    obtain⟨b,o,sp⟩:=a
    simp only at hs hh hoff
    subst hs
    have hc2:∀ i,i<zs.length→src[o+i]? =some (.int .u8 (zs.getD i 0)):=fun i hi=>by
      have:=hcell i hi
      have ha:(⟨b,o,none⟩:Addr).add i=⟨b,o+i,none⟩:=by unfold Addr.add;split<;>simp_all
      rw[ha,cell_of_row W b (o+i) src st.1 _ hh] at this
      exact this
    have htk:∀ i,i<len→(zs.take len).getD i 0=zs.getD i 0:=fun i hi=>by
      rw[List.getD_eq_getElem?_getD,List.getElem?_take_of_lt hi,← List.getD_eq_getElem?_getD]
    have hsz : o + len ≤ src.size := by
      by_cases h0:len=0
      · omega
      · have := hc2 (len - 1) (by omega)
        have:=(Array.getElem?_eq_some_iff.1 this).1
        omega
    refine⟨_,len,cap,zs.take len,rfl,by rw[List.length_take];omega,fun i hi=> ?_,.inr ⟨b,o,src,st,rfl,hh,hle,hsz,fun i hi=>by rw[htk i hi];exact hc2 i (by omega)⟩,fun W' sp hW=>⟨2,?_⟩⟩
    · rw [htk i hi]
      have hm:zs.getD i 0 ∈ zs:=by
        have hi':i<zs.length:=by omega
        have:zs.getD i 0=zs[i]:=by simp[List.getD,hi']
        rw[this];exact List.getElem_mem hi'
      have:=bounds_u8 (hwf _ hm)
      omega
    · have hW' := (hW b o rfl).1.trans hh
      exact shut_ints' 0 Tryd.underlying22 Tryd.underlying5 hc (Nat.zero_le _) hle hmax (by rw[(hW b o rfl).2];exact hall) (fun i hi=>by
        rw[cell_of_row W' b (o+i) src st.1 _ hW']
        exact hc2 i hi) hwf
end Go.Proofs.YtcfnjcacdmkgbaaDoor

/-! The two tables of constants, as the program's text lays them. -/
namespace Go.Proofs.YtcfnjcacdmkgbaaDoor
open Go.ChangeShapes Go.WideShapes Go.ChangeAt Go.RowKit Go.Ev
theorem ownS:ownKnob Tryd.prog.godebug=none:=by kernel_rfl
abbrev laidS:List (String×DataW Unit):= [("vestry/sha.constants256",Rows.laid_vestry_sha_constants256),("vestry/sha.constants512",Rows.laid_vestry_sha_constants512)]
theorem laid_row {W:World} {T e:TypeId} {n:Nat} {k:IntKind} {fuel:Nat} {cs:Array Value} {p:List MemPlace} {L:List Int} (hT:Tryd.prog.underlying T=some (.array n e)) (he:Tryd.prog.underlying e=some (.int k)) (h1:Tryd.prog.cellsOf e=1) (hn:Tryd.prog.cellsOf T=n) (hL:L.length=n) (hd:DataW.trod (fun _=>()) Tryd.prog W 0 (fun _=>true) false fuel T cs.toList=some (.agg (L.map fun x=> .lit (.int k x)),p)):cs=wA k n L:=by
  obtain⟨xs,m,_,ex,hlen,hl,hel⟩:=DataW.trod_array hT hd
  refine wA_ext (by rw[← Array.length_toList,hlen,hn]) (fun r hr=> ?_)
  have hE:=hel r hr
  rw[h1,Nat.mul_one,List.getElem?_eq_getElem (by omega)] at hE
  obtain⟨z,e1,e2,_⟩:=DataW.trod_int he hE
  have e3:(xs.map (·.1))=L.map fun x=> .lit (.int k x):=(DataW.agg.inj (Prod.mk.inj ex).1).symm
  have e4:(xs.map (·.1))[r]? =(L.map fun x=>(DataW.lit (.int k x):DataW Unit))[r]? :=by rw[e3]
  rw[List.getElem?_map,List.getElem?_map,List.getElem?_eq_getElem (by omega:r<xs.length),List.getElem?_eq_getElem (by omega:r<L.length),e2] at e4
  have hz:z=L.getD r 0:=by
    simp only[Option.map_some,Option.some.injEq,DataW.lit.injEq,Lit.int.injEq,true_and] at e4
    rw[e4,List.getD_eq_getElem?_getD,List.getElem?_eq_getElem (by omega:r<L.length)];rfl
  rw[← hz]
  have:cs.toList[r]? =some (.int k z):=by
    have h0:((cs.toList.drop r).take 1)[0]? =some (.int k z):=by rw[e1];rfl
    simpa using h0
  simpa using this
theorem var_heap {W:World} {n:String} {g:Nat} {cs:Array Value} (hg:Tryd.prog.globalNamed n=some g) (h:W.var? Tryd.prog n=some cs):∃ t:Tq,W.heap[g]? =some (.cells cs t.1 t.2):=by
  simp only[World.var?,hg,Option.bind_some] at h
  split at h
  · rename_i c t f e
    simp only[Option.some.injEq] at h
    subst h
    exact⟨(t,f),e⟩
  · cases h
theorem laid_at {W:World} (h:laidMetH Tryd.prog laidS W):∃ g0 g1:Tq,Has W (fun i=>i) [(wA .u32 64 kL2,g0),(wA .u64 80 kL5,g1)]:=by
  rw[MakeChecks.laidMetH_plain _ _ _ (by kernel_rfl)] at h
  obtain⟨ps,⟨g0,t0,cs0,f0,p0,q0,hg0,ht0,hv0,hd0,⟨g1,t1,cs1,f1,p1,q1,hg1,ht1,hv1,hd1,_,_⟩,_⟩,_,_⟩:=h
  obtain rfl:=Option.some.inj ((show Tryd.prog.globalNamed "vestry/sha.constants256" =some 0 by kernel_rfl).symm.trans hg0)
  obtain rfl:=Option.some.inj ((show Tryd.prog.globalNamed "vestry/sha.constants512" =some 1 by kernel_rfl).symm.trans hg1)
  obtain rfl:=Option.some.inj ((show(Tryd.prog.globals[0]?).map (·.type)=some 64 by kernel_rfl).symm.trans ht0)
  obtain rfl:=Option.some.inj ((show(Tryd.prog.globals[1]?).map (·.type)=some 72 by kernel_rfl).symm.trans ht1)
  have e0:(Rows.laid_vestry_sha_constants256:DataW Unit)= .agg (kL2.map fun x=> .lit (.int .u32 x)):=by kernel_rfl
  have e1:(Rows.laid_vestry_sha_constants512:DataW Unit)= .agg (kL5.map fun x=> .lit (.int .u64 x)):=by kernel_rfl
  rw[e0] at hd0
  rw[e1] at hd1
  have c0:=laid_row Tryd.underlying64 Tryd.underlying40 (by kernel_rfl) (by kernel_rfl) (by kernel_rfl) hd0
  have c1:=laid_row Tryd.underlying72 Tryd.underlying58 (by kernel_rfl) (by kernel_rfl) (by kernel_rfl) hd1
  obtain⟨t0,k0⟩:=var_heap hg0 hv0
  obtain⟨t1,k1⟩:=var_heap hg1 hv1
  rw[c0] at k0
  rw[c1] at k1
  refine⟨t0,t1,fun j x hx=> ?_⟩
  match j,hx with
  | 0, hx =>
    simp only[List.getElem?_cons_zero,Option.some.injEq] at hx
    subst hx
    exact k0
  | 1, hx =>
    simp only[List.getElem?_cons_succ,List.getElem?_cons_zero,Option.some.injEq] at hx
    subst hx
    exact k1
  |j+2,hx=>simp at hx
end Go.Proofs.YtcfnjcacdmkgbaaDoor
