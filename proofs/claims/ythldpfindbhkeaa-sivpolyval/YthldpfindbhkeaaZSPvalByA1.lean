import Derived.Test.YthldpfindbhkeaaZSPvalShI1
import Derived.Test.YthldpfindbhkeaaZSPvalEvW1
import Derived.ProofKit
import Derived.OpenShut
import Derived.ChangeSlices
set_option linter.unusedSimpArgs false
set_option linter.unusedVariables false
/-! Small facts for what vc.py prints. -/
namespace Go.Proofs.Ythldpfindbhkeaa
open Go.RowKit Go.Ev
theorem tmodN (a b:Nat):Int.tmod (a:Int) (b:Int)=((a%b:Nat):Int):=by
  rw[Int.tmod_eq_emod_of_nonneg (by omega)];rfl
theorem tdivN (a b:Nat):Int.tdiv (a:Int) (b:Int)=((a / b:Nat):Int):=by
  rw[Int.tdiv_eq_ediv_of_nonneg (by omega)];rfl
theorem tdivN_i64 (a b:Nat) (h:a<9223372036854775808):IntKind.i64.wrap (Int.tdiv (a:Int) (b:Int))=((a / b:Nat):Int):=by
  have:=Nat.div_le_self a b
  rw[tdivN,IntKind.wrap_i64]
  generalize a / b=c at this ⊢
  omega
theorem neT {x y:Int} (h:x≠y):(!decide (x=y))=true:=by simp[h]
theorem neF {x y:Int} (h:x=y):(!decide (x=y))=false:=by simp[h]
theorem wA_putE {k:IntKind} {N p q:Nat} {L:List Int} {x:Int} (h:p<N) (e:q=p):(wA k N L).setIfInBounds q (.int k x)=wA k N (lset N L p x):=by
  subst e;exact wA_put h
theorem src_wA {q:IntKind} {mem:List Mb} {i cap len:Nat} {N:List Int} {st:TypeId×(Nat×Nat)} {c:Nat} (hm:mem[i]? =some (wA q cap N,st)) (hl:len=N.length) (hc:N.length≤cap):SrcOk q mem (.slice (some ⟨i,0,none⟩) len c) N:=by
  subst hl
  refine⟨.inr ⟨i,0,c,_,_,rfl,hm,by rw[wA_size];omega,?_⟩⟩
  rw[wA_list q cap N hc]
  apply Array.ext'
  simp only[Array.toList_extract,List.extract_eq_take_drop,Nat.zero_add,Nat.sub_zero,List.drop_zero]
  rw[List.take_append_of_le_length (by simp[Go.Ev.iv]),List.take_of_length_le (by simp[Go.Ev.iv])]
theorem src_nil {q:IntKind} {mem:List Mb}:SrcOk q mem (.slice none 0 0) []:=⟨.inl ⟨rfl,rfl⟩⟩
theorem src_b {mem:List Mb} {i o l c:Nat} {a:Array Value} {st:TypeId×(Nat×Nat)} (hm:mem[i]? =some (a,st)) (hb:bytesAt a o l) (hz:o+l≤a.size):SrcOk .u8 mem (.slice (some ⟨i,o,none⟩) l c) (bL a o l):=by
  have hl:=bL_len a o l
  refine⟨.inr ⟨i,o,c,_,_,by rw[hl],hm,by rw[hl];exact hz,?_⟩⟩
  rw[hl]
  apply Array.ext_getElem?
  intro j
  by_cases hj:j<l
  · rw [Array.getElem?_extract_of_lt (by omega)]
    have h1:=(hb j hj).1
    rw[Array.getElem?_eq_getElem (by omega)] at h1
    have h2:=bL_at (a:=a) (p:=o) (r:=l) (i:=j)
    rw[if_pos hj,List.getD_eq_getElem?_getD,List.getElem?_eq_getElem (by omega)] at h2
    simp only[Go.Ev.iv,List.getElem?_toArray,List.getElem?_map]
    rw[List.getElem?_eq_getElem (by omega)]
    simp only[Option.getD_some] at h2
    simp only[Option.map_some,h2]
    exact h1
  · rw[Array.getElem?_eq_none (by simp only[Array.size_extract];omega),Array.getElem?_eq_none (by simp[Go.Ev.iv,hl];omega)]
end Go.Proofs.Ythldpfindbhkeaa

set_option linter.unusedSimpArgs false
set_option linter.unusedVariables false
/-! Bytes that are handed in. -/
namespace Go.Proofs.Ythldpfindbhkeaa
open Go.RowKit Go.Ev Go.ChangeShapes Go.WideShapes
theorem rowAt_off {P : Program} {fits : TypeId → Bool} : ∀ (d : Nat) {e : TypeId} {count off n : Nat}, Go.rowAt P fits d e count off n = true → off ≤ count * P.cellsOf e
  |0,_,_,_,_,h=>by simp[Go.rowAt] at h
  | d + 1, e, count, off, n, h => by
    unfold Go.rowAt at h
    simp only at h
    split at h
    · cases h
    · rename_i hs
      have hdm:=Nat.div_add_mod off (P.cellsOf e)
      have hm:off%P.cellsOf e<P.cellsOf e:=Nat.mod_lt _ (by omega)
      have key:off / P.cellsOf e<count→off≤count*P.cellsOf e:=fun h=>by
        have:=Nat.mul_le_mul_right (P.cellsOf e) (show off / P.cellsOf e+1≤count from h)
        rw[Nat.add_mul,Nat.one_mul,Nat.mul_comm (off / P.cellsOf e)] at this
        omega
      rcases(Bool.or_eq_true _ _ ▸ h) with h|h
      · simp only [Bool.and_eq_true, beq_iff_eq, decide_eq_true_eq] at h
        obtain⟨⟨h1,h2⟩,_⟩:=h
        have:=Nat.mul_le_mul_right (P.cellsOf e) (show off / P.cellsOf e≤count by omega)
        rw[Nat.mul_comm (off / P.cellsOf e)] at this
        omega
      · rw [Bool.and_eq_true, decide_eq_true_eq] at h
        exact key h.1
theorem liesAt_off {P:Program}:∀(d:Nat) {e u:TypeId} {count off n:Nat},liesAt P d e count off u n=true→off≤count*P.cellsOf e
  |0,_,_,_,_,_,h=>by simp[liesAt] at h
  | d + 1, e, u, count, off, n, h => by
    unfold liesAt at h
    rcases(Bool.or_eq_true _ _ ▸ h) with h|h
    · exact rowAt_off _ h
    · split at h
      · exact liesAt_off d h
      · cases h
theorem has_off {P:Program} {w:World} {r:Reach} {base:Nat} {a:Addr} {e:TypeId} {n:Nat} (h:w.has P r base a e n):a.spot=none∧∃(cs:Array Value) (st:Tq),w.heap[a.block]? =some (.cells cs st.1 st.2)∧a.off≤cs.size:=by
  obtain⟨_,hs,row,cells,hsh,hl⟩:=h
  refine⟨hs,?_⟩
  unfold World.shape? at hsh
  split at hsh
  · rename_i c elem fr e1
    simp only[Option.some.injEq,Prod.mk.injEq] at hsh
    obtain⟨rfl,rfl⟩:=hsh
    exact⟨c,(elem,fr),e1,Nat.le_trans (liesAt_off _ hl) (Nat.div_mul_le_self _ _)⟩
  · cases hsh
theorem okWide_has {P:Program} {w:World} {r:Reach} {base:Nat} {t e:TypeId} {a:Addr} {len cap:Nat} (ht:P.underlying t=some (.slice e)) (h:Value.okWide P w r base t (.slice (some a) len cap)):w.has P r base a e cap:=by
  unfold Value.okWide at h
  rw[ht] at h
  simp only at h
  unfold Cell.okWide at h
  rw[ht] at h
  simp only at h
  unfold Cell.ok at h
  rw[ht] at h
  simp only at h
  exact h.2.2
theorem open_bytes {H : Type} {enc : TypeId × Value → H} {W : World} {r : Reach} {base : Nat} {held : Bool} {v : Value} {d : DataW H} {ps : List MemPlace} (hval : Value.okWide Try.prog W r base 26 v) (hd : DataW.Trod enc Try.prog W 0 (fun _ => true) held 26 v d ps) :
    ∃ (bp : Option Addr) (l cp : Nat) (N : List Int), v = .slice bp l cp ∧ N.length = l ∧ (∀ i, i < l → 0 ≤ N.getD i 0 ∧ N.getD i 0 < 256) ∧
      ((bp=none∧l=0∧cp=0∧N= [])∨∃(b o:Nat) (src:Array Value) (st:Tq),bp=some ⟨b,o,none⟩∧W.heap[b]? =some (.cells src st.1 st.2)∧l≤cp∧o+l≤src.size∧∀ i,i<l→src[o+i]? =some (.int .u8 (N.getD i 0)))∧
      ∀(W':World) (sp:Nat→Bool),(∀ b o,bp=some ⟨b,o,none⟩→W'.heap[b]? =W.heap[b]? ∧sp b=true)→DataW.Trod enc Try.prog W' 0 sp held 26 v d ps:=by
  obtain⟨a0,len,cap,rfl⟩:=okWide_slice Try.underlying26 hval
  obtain⟨fuel,hf⟩:=hd
  have hc:Try.prog.cellsOf 5=1:=by kernel_rfl
  rcases open_ints Try.underlying26 Try.underlying5 hc hf with⟨h1,h2⟩|⟨a,len',cap',zs,h1,_,hle,hmax,hall,hx,hcell,hwf⟩
  · simp [Value.cells] at h1
    obtain⟨rfl,rfl,rfl⟩:=h1
    simp only[Prod.mk.injEq] at h2
    obtain⟨rfl,rfl⟩:=h2
    refine⟨none,0,0,[],rfl,rfl,fun i hi=>by omega,.inl ⟨rfl,rfl,rfl,rfl⟩,fun W' sp _=>⟨fuel,?_⟩⟩
    cases fuel with
    |zero=>simp[DataW.trod] at hf
    |succ n=>simp[DataW.trod,Value.cells,Try.underlying26]
  · simp [Value.cells] at h1
    obtain⟨rfl,rfl,rfl⟩:=h1
    simp only[Prod.mk.injEq] at hx
    obtain⟨rfl,rfl⟩:=hx
    simp only[if_true] at hall
    obtain⟨hs,src,st,hh,hoff⟩:=has_off (okWide_has Try.underlying26 hval)
    obtain⟨b,o,sp⟩:=a
    simp only at hs hh hoff
    subst hs
    have hc2:∀ i,i<zs.length→src[o+i]? =some (.int .u8 (zs.getD i 0)):=fun i hi=>by
      have:=hcell i hi
      have ha:(⟨b,o,none⟩:Addr).add i=⟨b,o+i,none⟩:=by unfold Addr.add;split<;>simp_all
      rw[ha,cell_of_row W b (o+i) src st.1 _ hh] at this
      exact this
    have htk:∀ i,i<len→(zs.take len).getD i 0=zs.getD i 0:=fun i hi=>by
      rw[List.getD_eq_getElem?_getD,List.getElem?_take_of_lt hi,← List.getD_eq_getElem?_getD]
    have hsz : o + len ≤ src.size := by
      by_cases h0:len=0
      · omega
      · have := hc2 (len - 1) (by omega)
        have:=(Array.getElem?_eq_some_iff.1 this).1
        omega
    refine⟨_,len,cap,zs.take len,rfl,by rw[List.length_take];omega,fun i hi=> ?_,.inr ⟨b,o,src,st,rfl,hh,hle,hsz,fun i hi=>by rw[htk i hi];exact hc2 i (by omega)⟩,fun W' sp hW=>⟨2,?_⟩⟩
    · rw [htk i hi]
      have hm:zs.getD i 0 ∈ zs:=by
        have hi':i<zs.length:=by omega
        have:zs.getD i 0=zs[i]:=by simp[List.getD,hi']
        rw[this];exact List.getElem_mem hi'
      have:=bounds_u8 (hwf _ hm)
      omega
    · have hW' := (hW b o rfl).1.trans hh
      exact shut_ints' 0 Try.underlying26 Try.underlying5 hc (Nat.zero_le _) hle hmax (by rw[(hW b o rfl).2];exact hall) (fun i hi=>by
        rw[cell_of_row W' b (o+i) src st.1 _ hW']
        exact hc2 i hi) hwf
end Go.Proofs.Ythldpfindbhkeaa
