import Derived.Test.YtdebkddhpogkgaaGreatZASarsRefAll
import Derived.WalkKit
import Derived.Test.YtdebkddhpogkgaaGreatZASarsMthAll
import Derived.Test.YtdebkddhpogkgaaGreatZASarsSchAll
set_option linter.unusedSimpArgs false
namespace Go.Calm
theorem St.grown {w0 W W':World} {L:List Blk} {row:Option Nat} (S:St w0 W L) (hg:W.grownBy W' row) (hr:∀ k,row=some k→w0.heap.size≤k∧∀ x ∈ L,x.b≠k):St w0 W' L:=
  ⟨S.below.grown hg S.below.size (fun k hk=>(hr k hk).1),S.own,S.nd,fun x hx=>by
    rw[hg.block x.b (lt_of_heap (S.has x hx)) (fun e=>(hr x.b e.symm).2 x hx rfl)]
    exact S.has x hx⟩
end Go.Calm
namespace Go.Proofs.YtdebkddhpogkgaaGreat
open Go.RowKit
theorem own_row {w:World} {base:Nat} {e:TypeId} {size:Nat} {v:Value} {n:Nat} {xs:List Value} (h:w.ownsRow base e size v n xs):∀ k,v.ownBlock=some k→base≤k:=by
  intro k hk
  rcases h.2 with⟨rfl,_⟩|⟨g,cap,cur,rfl,hb,_⟩
  · cases hk
  · cases hk;exact hb
theorem info3:(Tryz.prog.info? 3).map (fun i=>(i.zero,i.size,i.bytes))=some (some (.int .i64 0),1,8):=by kernel_rfl
end Go.Proofs.YtdebkddhpogkgaaGreat

set_option linter.unusedSimpArgs false
namespace Go.Calm
section
variable {P:Program} {ops:Array Oper} {rest:List Oper} {o:Oper} {a:Act} {w0 W:World} {L:List Blk} {Q:Exit→Act→World→Prop}
theorem wl_loadB (S:St w0 W L) {ty:TypeId} {x:Operand} {g j:Nat} {cs:Array Value} {t:TypeId} {v:Value} (hw:Region.wanted o (yielded ops a.tmps)=true) (ho:o.op= .load ty x) (hx:a.eval x= .pointer (some ⟨g,j,none⟩)) (hg:w0.heap[g]? =some (.cells cs t (0,0))) (hv:cs[j]? =some v)
    (T:OneT P ty)
    (h:wpList P ops Q rest (a.put o.dst v) W):wpList P ops Q (o :: rest) a W:=by
  obtain⟨d,hu,hd⟩:=T.one
  refine wpList_wanted hw fun K hK=> ?_
  have hW:W.heap[g]? =some (.cells cs t (0,0)):=(S.below.block _ (lt_of_heap hg)).trans hg
  unfold Oper.wp execOp
  simp only[ho,hx,Instr.loadAt,Instr.sureAddr,Sem.run_bind,Sem.run_pure,Result.andThen_ok,run_loadVar_one W g j t ty cs d v hW hv hu hd]
  exact hK _ _ h
end
end Go.Calm
namespace Go.Proofs.YtdebkddhpogkgaaGreat
open Go.RowKit Go.Calm
theorem oneInt:Calm.OneT Tryz.prog 3:=⟨⟨_,Tryz.underlying3,rfl⟩,by kernel_rfl⟩
def hvd (bt:Nat→Nat) (n:Nat):Nat→Nat
  |0=>0
  |d+1=>2*hvd bt n d+bt (n - 1 - d)
theorem pm_dbl (A:Int) (n:Nat):pm A n*pm A n%pr=pm A (2*n):=by rw[pm_add];congr 1;omega
theorem pm_dbl1 (A:Int) (n:Nat):pm A (2*n)*A%pr=pm A (2*n+1):=by rw[Int.mul_comm,pm_succ]
set_option maxHeartbeats 1000000 in
theorem Power_c (A : Int) (hA : Ok A) (bt : Nat → Nat) (n : Nat) (hn : n ≤ 1000) (hb : ∀ j, j < n → bt j < 2) (g cap : Nat) (cur : Array Value) (t : TypeId) (w : World) (hg : w.heap[g]? = some (.cells cur t (0, 0))) (hc : ∀ j, j < n → cur[j]? = some (.int .i64 (bt j : Int))) :
    Calls Tryz.prog 96 #[.agg (nuC A),.slice (some ⟨g,0,none⟩) n cap] w fun e w'=>e= .returned (.agg (nuC (pm A (hvd bt n n))))∧Below w.heap.size w w':=by
  have S:=Calm.St.start w
  have HC:=hide hc
  have HB:=hide hb
  have HG:=hide hg
  clear hc hb hg
  go_enter Tryz.func96,Tryz.ntmps96
  go_wp2_with (first|(refine wl_box S rfl rfl rfl ?_;clear S;intro b W S)|(refine wl_new (ty:=70) S rfl rfl zeroNu ?_;clear S;intro b W S))
  refine(ROf_c 1 (by omega) (by omega) _).mono ?_
  rintro e W1 ⟨rfl,hb⟩
  have S:=S.call hb
  clear hb
  have hnn:(n:Int)≤1000:=by omega
  have e0:IntKind.i64.wrap ((n:Int) - 1)=(n:Int) - 1:=by rw[IntKind.wrap_i64];omega
  go_wp2_with (first|(refine wl_new (ty:=70) S rfl rfl zeroNu ?_;clear S;intro b W S)|(refine g_store (ty:=70) rfl ?_;refine wl_store (ty:=70) S rfl rfl rfl rfl (by repeat(first|exact foc_hd|apply foc_tl)) aggNu (by rw[nuC_size]) (by rw[nuF_size]) (nuF_one _) ?_;clear S;intro W S))
  rename_i bA _ bR _ _ _ K hK
  go_loopw [6] (fun i Wr=>∃ d:Nat,d≤n∧i= .int .i64 ((n:Int) - 1 - d)∧Calm.St w Wr [⟨b,nuC (pm A (hvd bt n d)),70⟩,⟨bR,nuF (fun _=>0),70⟩,⟨bA,nuC A,70⟩]) (fun i _=>(intOf i+1).toNat)
  case atStart=>exact⟨0,by omega,by simp,by rw[show pm A (hvd bt n 0)=1 from pm_0 A];exact S⟩
  case round =>
    clear S
    obtain⟨d,hd,rfl,S⟩:=hrel
    by_cases hlt:d<n
    · obtain ⟨m, hm⟩ : ∃ m : Nat, m = n - 1 - d := ⟨_, rfl⟩
      have em:(n:Int) - 1 - d=(m:Int):=by omega
      rw[em]
      have hmn:(m:Int)<(n:Int):=by omega
      have hmn':m<n:=by omega
      have hm1:(m:Int)≤1000:=by omega
      have Hm:=hide hm
      have Hx:=hide (HC.out m hmn')
      have hbm:=HB.out m hmn'
      have e9:IntKind.i64.wrap ((m:Int) - 1)=(m:Int) - 1:=by rw[IntKind.wrap_i64];omega
      clear hm em
      go_wp2_with (first|(refine g_load (ty:=70) rfl ?_;refine wl_load (ty:=70) S rfl rfl rfl (by repeat constructor) aggNu (by rw[nuC_size]) ?_))
      refine(RMul_c _ _ (ok_pm _ _) (ok_pm _ _) _).mono ?_
      rintro e W1 ⟨rfl,hb⟩
      have S:=S.call hb
      clear hb
      rw[pm_dbl]
      have hbit:bt m=0∨bt m=1:=by omega
      clear hbm
      rcases hbit with hb0|hb1
      · have Hv : Hid (hvd bt n (d + 1) = 2 * hvd bt n d) := by unfold Hid; rw [hvd, ← Hm.out, hb0]; rfl
        rw[hb0] at Hx
        clear hb0
        go_wp2_with (first|(refine g_store (ty:=70) rfl ?_;refine wl_store (ty:=70) S rfl rfl rfl rfl (by repeat(first|exact foc_hd|apply foc_tl)) aggNu (by rw[nuC_size]) (by rw[nuC_size]) (nuF_one _) ?_;clear S;intro W S)|(refine g_load (ty:=3) rfl ?_;refine wl_loadB (ty:=3) (g:=g) (v:= .int .i64 0) S rfl rfl rfl HG.out Hx.out oneInt ?_))
        go_roundw
        case rel=>exact⟨d+1,by omega,by have:=Hm.out;go_num,by rw[Hv.out];exact S⟩
        case measure=>simp[intOf]
      · have Hv : Hid (hvd bt n (d + 1) = 2 * hvd bt n d + 1) := by unfold Hid; rw [hvd, ← Hm.out, hb1]
        rw[hb1] at Hx
        clear hb1
        go_wp2_with (first|(refine g_store (ty:=70) rfl ?_;refine wl_store (ty:=70) S rfl rfl rfl rfl (by repeat(first|exact foc_hd|apply foc_tl)) aggNu (by rw[nuC_size]) (by rw[nuC_size]) (nuF_one _) ?_;clear S;intro W S)|(refine g_load (ty:=3) rfl ?_;refine wl_loadB (ty:=3) (g:=g) (v:= .int .i64 1) S rfl rfl rfl HG.out Hx.out oneInt ?_)|(refine g_load (ty:=70) rfl ?_;refine wl_load (ty:=70) S rfl rfl rfl (by repeat constructor) aggNu (by rw[nuC_size]) ?_))
        refine(RMul_c _ _ (ok_pm _ _) hA _).mono ?_
        rintro e W1 ⟨rfl,hb⟩
        have S:=S.call hb
        clear hb
        rw[pm_dbl1]
        go_wp2_with (first|(refine g_store (ty:=70) rfl ?_;refine wl_store (ty:=70) S rfl rfl rfl rfl (by repeat(first|exact foc_hd|apply foc_tl)) aggNu (by rw[nuC_size]) (by rw[nuC_size]) (nuF_one _) ?_;clear S;intro W S))
        go_roundw
        case rel=>exact⟨d+1,by omega,by have:=Hm.out;go_num,by rw[Hv.out];exact S⟩
        case measure=>simp[intOf]
    · have hd' : d = n := by omega
      subst hd'
      rw[show(d:Int) - 1 - d= -1 by omega]
      go_wp2_with (first|(refine g_load (ty:=70) rfl ?_;refine wl_load (ty:=70) S rfl rfl rfl (by repeat constructor) aggNu (by rw[nuC_size]) ?_)|(refine g_store (ty:=70) rfl ?_;refine wl_store (ty:=70) S rfl rfl rfl rfl (by repeat(first|exact foc_hd|apply foc_tl)) aggNu (by rw[nuC_size]) (by rw[nuF_size]) (nuF_one _) ?_;clear S;intro W S))
      refine Calm.ret_cell S (by rfl) (by rfl) (by repeat constructor) aggNu (by rw[nuC_size]) (by rfl) ?_
      exact⟨rfl,S.below⟩
end Go.Proofs.YtdebkddhpogkgaaGreat

set_option linter.unusedSimpArgs false
namespace Go.Proofs.YtdebkddhpogkgaaGreat
open Go.RowKit Go.Calm
theorem own_some {w:World} {base:Nat} {e:TypeId} {size:Nat} {v:Value} {n:Nat} {xs:List Value} (h:w.ownsRow base e size v n xs) (hn:0<n):∃ g cap,v= .slice (some ⟨g,0,none⟩) n cap:=by
  rcases h.2 with⟨_,h0⟩|⟨g,cap,cur,h1,_⟩
  · omega
  · exact⟨g,cap,h1⟩
set_option maxHeartbeats 1000000 in
theorem ones_c (n : Nat) (hn : n ≤ 1000) (xs : List Int) (hx0 : 0 < xs.length) (hxn : xs.length ≤ n) (g c : Nat) (w : World) (hc : ∀ j u, (xs.map (Value.int .i64))[j]? = some u → w.cell? (Addr.add ⟨g, 0, none⟩ j) = some u) :
    Calls Tryz.prog 97 #[.int .i64 (n:Int),.slice (some ⟨g,0,none⟩) xs.length c] w fun e w'=>∃ v,e= .returned v∧w'.ownsRow w.heap.size 3 1 v n ((xs ++ List.replicate (n - xs.length) 1).map (Value.int .i64))∧Below w.heap.size w w':=by
  have S:=Calm.St.start w
  obtain⟨i0,hi,hz0,hz1,hz2⟩:=info_parts info3
  have HC:=hide hc
  clear hc
  go_enter Tryz.func97,Tryz.ntmps97
  go_wp2_with (first|(at_builtin;refine wpList_append_own _ rfl _ _ 117 rfl w.heap.size 3 i0 (.int .i64 0) 1 8 Tryz.underlying117 hi hz0 hz1 hz2 rfl (by decide) _ 0 [] rfl ?c0 ⟨g,0,none⟩ xs.length c (xs.map (Value.int .i64)) rfl ?c6 ?c1 ?c2 ?c3 ?c4 ?c5 ?_))
  case c0=>exact⟨rfl,.inr ⟨w.heap.size,0, #[],rfl,Nat.le_refl _,(S.new #[] 3).has _ List.mem_cons_self,Nat.le_refl _,by unfold maxLen;omega,rfl,rfl⟩⟩
  case c6=>simp
  case c1=>intro j u hj;exact(World.grownBy_alloc w _ none).cell (HC.out j u hj) (by simp)
  case c2=>
    intro u hu
    obtain⟨x,_,rfl⟩:=List.mem_map.1 hu
    rfl
  case c3=>unfold maxLen;omega
  case c4=>omega
  case c5=>simp
  intro v w1 hown hgrow _
  have S1 : Calm.St w w1 [] := Calm.St.grown (S.call (Below.alloc (Below.refl _ _) (Nat.le_refl _) _)) hgrow (fun g hg => by
    have:g=w.heap.size:=by
      have h:(some w.heap.size:Option Nat)=some g:=hg
      cases h;rfl
    refine⟨by omega,fun x hx=>by cases hx⟩)
  try simp only[Nat.zero_add,List.nil_append] at hown
  obtain⟨g1,cap1,rfl⟩:=own_some hown hx0
  have HO:=hide hown
  clear hown hgrow S
  go_wp2
  rename_i K hK
  go_loopw [5] (fun v Wr=>∃ k g1 cap1:Nat,xs.length≤k∧k≤n∧v= .slice (some ⟨g1,0,none⟩) k cap1∧Wr.ownsRow w.heap.size 3 1 (.slice (some ⟨g1,0,none⟩) k cap1) k ((xs ++ List.replicate (k - xs.length) 1).map (Value.int .i64))∧Calm.St w Wr []) (fun v _=>n - (match v with| .slice _ l _=>l|_=>0))
  case atStart=>exact⟨xs.length,g1,cap1,Nat.le_refl _,hxn,rfl,by rw[Nat.sub_self];simpa using HO.out,S1⟩
  case round =>
    clear S1 HO
    obtain⟨k,g2,cap2,hk1,hk2,rfl,hown,S⟩:=hrel
    have HO:=hide hown
    clear hown
    by_cases hlt:k<n
    · have hlt' : (k : Int) < (n : Int) := by omega
      go_wp2_with (first|(at_builtin;refine wpList_append_own _ rfl _ _ 117 rfl w.heap.size 3 i0 (.int .i64 0) 1 8 Tryz.underlying117 hi hz0 hz1 hz2 rfl (by decide) _ _ _ rfl (HO.out.alloc _) ⟨wr.heap.size,0,none⟩ 1 1 [.int .i64 1] rfl rfl ?c1 ?c2 ?c3 ?c4 ?c5 ?_))
      case c1=>
        intro j u hj
        match j,hj with
        |0,hj=>simp at hj;subst hj;simp[Addr.add]
      case c2=>intro u hu;simp at hu;subst hu;rfl
      case c3=>unfold maxLen;omega
      case c4=>omega
      case c5=>have:=S.below.size;simp;omega
      · intro v' w1 hown' hgrow _
        have S1:Calm.St w w1 []:=Calm.St.grown (S.call (Below.alloc (Below.refl _ _) (Nat.le_refl _) _)) hgrow (fun g hg=>⟨own_row HO.out g hg,fun x hx=>by cases hx⟩)
        obtain⟨g3,cap3,rfl⟩:=own_some hown' (by omega)
        have O1:w1.ownsRow w.heap.size 3 1 (.slice (some ⟨g3,0,none⟩) (k+1) cap3) (k+1) ((xs ++ List.replicate (k+1 - xs.length) 1).map (Value.int .i64)):=by
          rw[show k+1 - xs.length=(k - xs.length)+1 by omega,List.replicate_succ',List.map_append,List.map_append,List.map_replicate]
          exact hown'
        have HO1:=hide O1
        clear hown' hgrow S O1
        go_wp2
        go_roundw
        case rel=>exact⟨k+1,g3,cap3,by omega,by omega,rfl,HO1.out,S1⟩
        case measure=>simp;omega
    · have hk' : k = n := by omega
      subst hk'
      go_wp2
      go_ret
      exact⟨_,rfl,HO.out,S.below⟩
end Go.Proofs.YtdebkddhpogkgaaGreat

set_option linter.unusedSimpArgs false
namespace Go.Proofs.YtdebkddhpogkgaaGreat
open Go.RowKit Go.Calm
theorem own_read {w:World} {base:Nat} {e:TypeId} {v:Value} {n:Nat} {xs:List Nat} (h:w.ownsRow base e 1 v n (xs.map fun x:Nat=>Value.int .i64 (x:Int))) (hn:0<n):∃ g cap cur,v= .slice (some ⟨g,0,none⟩) n cap∧w.heap[g]? =some (.cells cur e (0,0))∧∀ j,j<n→cur[j]? =some (.int .i64 ((xs.getD j 0:Nat):Int)):=by
  have hl:xs.length=n:=by have:=h.1;simpa using this
  rcases h.2 with⟨_,h0⟩|⟨g,cap,cur,h1,_,h3,_,_,_,h4⟩
  · omega
  · refine ⟨g, cap, cur, h1, h3, fun j hj => ?_⟩
    have h5:=congrArg (fun l:List Value=>l[j]?) h4
    simp only[Nat.mul_one,List.getElem?_take,hj,if_true,List.getElem?_map] at h5
    rw[← Array.getElem?_toList,h5]
    simp[List.getD,hl,hj]
def lInv:List Nat:= [1,1,0,1,0] ++ List.replicate 250 1
def lI:List Nat:= [1,1,0,1] ++ List.replicate 249 1
def lRoot:List Nat:= [0] ++ List.replicate 251 1
theorem h_inv:hvd (fun j=>lInv.getD j 0) 255 255=eInv.toNat:=by kernel_rfl
theorem h_i:hvd (fun j=>lI.getD j 0) 253 253=qN:=by kernel_rfl
theorem two_q:pm 2 qN=iNum:=by
  have h:=pm_nat 2 qN
  rw[← fpw_eq 2 prN 256 qN (of_decide_eq_true (by kernel_rfl))] at h
  exact h.trans (by kernel_rfl)
set_option maxHeartbeats 1000000 in
theorem RI_c (w:World):Calls Tryz.prog 77 #[] w fun e w'=>e= .returned (.agg (nuC iNum))∧Below w.heap.size w w':=by
  have S:=Calm.St.start w
  go_enter Tryz.func77,Tryz.ntmps77
  go_wp2_with (first|(refine wl_new (ty:=70) S rfl rfl zeroNu ?_;clear S;intro b W S))
  refine(ROf_c 2 (by omega) (by omega) _).mono ?_
  rintro e W1 ⟨rfl,hb⟩
  have S:=S.call hb
  clear hb
  go_wp2_with (first|(refine wl_new (ty:=70) S rfl rfl zeroNu ?_;clear S;intro b W S))
  refine(ones_c 253 (by omega) [1,1,0,1] (by decide) (by decide) W1.heap.size 4 _ ?_).mono ?_
  · intro j u hj
    rcases j with _|_|_|_|j<;>simp at hj<;>(try subst hj)<;>simp[Addr.add]
  rintro e W2 ⟨v,rfl,hown,hb⟩
  have S:=(S.new #[.int .i64 1,.int .i64 1,.int .i64 0,.int .i64 1] 3).call hb
  have el:(([1,1,0,1] ++ List.replicate (253 - ([1,1,0,1]:List Int).length) 1:List Int)).map (Value.int .i64)=lI.map (fun x:Nat=>Value.int .i64 (x:Int)):=by kernel_rfl
  rw[el] at hown
  obtain⟨g,cap,cur,rfl,hg,hc⟩:=own_read hown (by omega)
  clear hown hb el
  have hp:=Power_c 2 (by unfold Ok;omega) (fun j=>lI.getD j 0) 253 (by omega) (fun j hj=>of_decide_eq_true (p:=∀ j,j<253→lI.getD j 0<2) (by kernel_rfl) j hj) g cap cur _ W2 hg hc
  rw[h_i,two_q] at hp
  have HP:=hide hp
  clear hp hg hc
  go_wp2_with (first|(refine wl_box S rfl rfl rfl ?_;clear S;intro b W S)|(refine wl_new (ty:=58) S rfl rfl zeroFe ?_;clear S;intro b W S)|(refine g_load (ty:=58) rfl ?_;refine wl_load (ty:=58) S rfl rfl rfl (by repeat constructor) aggFe (by rfl) ?_)|(refine g_store (ty:=58) rfl ?_;refine wl_store (ty:=58) S rfl rfl rfl rfl (by repeat(first|exact foc_hd|apply foc_tl)) aggFe rfl (by rfl) (w4_one _ _ _ _) ?_;clear S;intro W S)|(refine g_load (ty:=24) rfl ?_;refine wl_loadE (ty:=24) S rfl rfl rfl (by repeat constructor) (by rfl) one64 ?_)|(refine g_store (ty:=24) rfl ?_;refine wl_storeE (ty:=24) S rfl rfl rfl rfl (by rfl) (by repeat(first|exact foc_hd|apply foc_tl)) one64 (by simp) rfl ?_;clear S;intro W S;simp only[Act.eval,zQ] at S))
  refine HP.out.mono ?_
  rintro e W3 ⟨rfl,hb⟩
  have S:=S.call hb
  clear hb
  go_wp2_with (first|(refine g_store (ty:=70) rfl ?_;refine wl_store (ty:=70) S rfl rfl rfl rfl (by repeat(first|exact foc_hd|apply foc_tl)) aggNu (by rw[nuC_size]) (by rw[nuF_size]) (nuF_one _) ?_;clear S;intro W S))
  refine Calm.ret_cell S (by rfl) (by rfl) (by repeat constructor) aggNu (by rw[nuC_size]) (by rfl) ?_
  exact⟨rfl,S.below⟩
end Go.Proofs.YtdebkddhpogkgaaGreat

set_option linter.unusedSimpArgs false
namespace Go.Calm
section
variable {P:Program} {ops:Array Oper} {Q:Exit→Act→World→Prop} {r:List (Nat×Bool)} {i:Nat} {o:Oper} {a:Act} {W:World} {L0:List Blk}
theorem whB_callE {f:FuncId} {as':Array Operand} {ts:Array TypeId} {args:Array Value} {Φ:Ending→World→Prop} (hi:ops[i]? =some o) (hw:Region.wanted o (yielded ops a.tmps)=true) (_ho:o.op= .call { callee:= .value (.func f),args:=as',argTypes:=ts }) (hr:∀ w,(execOp a.eval o).run P w= .ok (.enter f args) w)
    (hc:Calls P f args W Φ) (h:∀ e w'',Φ e w''→∃ v,e= .returned v∧Mem0 L0 w''∧walkH P ops Q (Mem0 L0) r (a.put o.dst v) w''):walkH P ops Q (Mem0 L0) ((i,false) :: r) a W:=
  wh_only hi hw (by
    unfold Oper.wp
    rw[hr W]
    simp only[Oper.upon]
    exact hc.mono fun e w'' hΦ=>by
      obtain⟨v,rfl,hm,hk⟩:=h e w'' hΦ
      exact⟨hm,hk⟩)
end
end Go.Calm
namespace Go.Proofs.YtdebkddhpogkgaaGreat
open Go.RowKit Go.Calm
set_option maxHeartbeats 400000 in
theorem RInv_c (A:Int) (hA:Ok A) (w:World):Calls Tryz.prog 83 #[.agg (nuC A)] w fun e w'=>e= .returned (.agg (nuC (invF A)))∧Below w.heap.size w w':=by
  have S:=Calm.St.start w
  go_enter Tryz.func83,Tryz.ntmps83
  go_wp2_with (first|(refine wl_box S rfl rfl rfl ?_;clear S;intro b W S)|(refine wl_new (ty:=70) S rfl rfl zeroNu ?_;clear S;intro b W S))
  rename_i bA _ _ _
  have S0:=S
  refine Calm.region_sched S [(0,true),(1,false),(2,false),(3,false),(4,false)] [⟨bA,nuC A,70⟩] (by kernel_rfl) (by kernel_rfl) (by simp) (by intro c a d v w h;cases d<;>exact h) (fun S=> ?_)
  refine wh_load (ty:=70) rfl (by rfl) rfl rfl (by repeat constructor) aggNu (by simp only[nuC_size]) ?_
  simp only[List.getElem_toArray,List.getElem_cons_succ,List.getElem_cons_zero,Act.put,Act.eval,zQ]
  refine wh_only rfl (by rfl) ?_
  unfold Oper.wp
  go_simp
  have S1:=(S0.new #[.int .i64 1,.int .i64 1,.int .i64 0,.int .i64 1,.int .i64 0] 3).drew
  clear S S0
  refine⟨S1.mem0 (by simp),?_⟩
  apply Calm.whB_callE (f:=97) rfl (by rfl) rfl
  · intro w;go_simp;rfl
  · refine ones_c 255 (by omega) [1, 1, 0, 1, 0] (by decide) (by decide) W.heap.size 5 _ ?_
    intro j u hj
    rcases j with _|_|_|_|_|j<;>simp at hj<;>(try subst hj)<;>simp[Addr.add]
  rintro e W2 ⟨v,rfl,hown,hb⟩
  have S:=S1.call hb
  have el:(([1,1,0,1,0] ++ List.replicate (255 - ([1,1,0,1,0]:List Int).length) 1:List Int)).map (Value.int .i64)=lInv.map (fun x:Nat=>Value.int .i64 (x:Int)):=by kernel_rfl
  rw[el] at hown
  obtain⟨g,cap,cur,rfl,hg,hc⟩:=own_read hown (by omega)
  clear hown hb el S1
  refine⟨_,rfl,S.mem0 (by simp),?_⟩
  have hp:=Power_c A hA (fun j=>lInv.getD j 0) 255 (by omega) (fun j hj=>of_decide_eq_true (p:=∀ j,j<255→lInv.getD j 0<2) (by kernel_rfl) j hj) g cap cur _ W2 hg hc
  rw[h_inv] at hp
  have HP:=hide hp
  clear hp hg hc
  simp only[List.getElem_toArray,List.getElem_cons_succ,List.getElem_cons_zero,Act.put,Act.eval,zQ]
  apply Calm.whB_callE (f:=96) rfl (by rfl) rfl
  · intro w;go_simp;rfl
  · exact HP.out
  rintro e W3 ⟨rfl,hb⟩
  have S:=S.call hb
  clear hb
  refine⟨_,rfl,S.mem0 (by simp),?_⟩
  simp only[List.getElem_toArray,List.getElem_cons_succ,List.getElem_cons_zero,Act.put,Act.eval,zQ]
  refine Calm.whB_store (ty:=70) S rfl (by rfl) rfl rfl rfl (by repeat(first|exact foc_hd|apply foc_tl)) aggNu (by rw[nuC_size]) (by rw[nuF_size]) (nuF_one _) (by simp) ?_
  clear S
  intro W S
  simp only[List.getElem_toArray,List.getElem_cons_succ,List.getElem_cons_zero,Act.put,Act.eval,zQ]
  refine wh_nil ?_
  go_wp2_with (first|(refine wl_box S rfl rfl rfl ?_;clear S;intro b W S)|(refine wl_new (ty:=58) S rfl rfl zeroFe ?_;clear S;intro b W S)|(refine g_load (ty:=58) rfl ?_;refine wl_load (ty:=58) S rfl rfl rfl (by repeat constructor) aggFe (by rfl) ?_)|(refine g_store (ty:=58) rfl ?_;refine wl_store (ty:=58) S rfl rfl rfl rfl (by repeat(first|exact foc_hd|apply foc_tl)) aggFe rfl (by rfl) (w4_one _ _ _ _) ?_;clear S;intro W S)|(refine g_load (ty:=24) rfl ?_;refine wl_loadE (ty:=24) S rfl rfl rfl (by repeat constructor) (by rfl) one64 ?_)|(refine g_store (ty:=24) rfl ?_;refine wl_storeE (ty:=24) S rfl rfl rfl rfl (by rfl) (by repeat(first|exact foc_hd|apply foc_tl)) one64 (by simp) rfl ?_;clear S;intro W S;simp only[Act.eval,zQ] at S))
  refine Calm.ret_cell S (by rfl) (by rfl) (by repeat constructor) aggNu (by rw[nuC_size]) (by rfl) ?_
  exact⟨rfl,S.below⟩
end Go.Proofs.YtdebkddhpogkgaaGreat
