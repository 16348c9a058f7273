import Derived.Test.YtpmkojinhebihaaDoorZSRotsShHH
set_option linter.unusedSimpArgs false
set_option linter.unusedVariables false
/-! The standard's examples. -/
namespace Go.Proofs.YtpmkojinhebihaaDoor
open Go.RowKit Go.Ev
def okB (a:Array Value) (n:Nat):Bool:=(List.range n).all fun j=>match a[j]? with
  |some (.int .u8 x)=>decide (0≤x) && decide (x<256)
  |_=>false
theorem okB_at {a:Array Value} {n:Nat} (h:okB a n=true):bytesAt a 0 n:=fun j hj=>by
  have:=List.all_eq_true.1 h j (List.mem_range.2 hj)
  rw[Nat.zero_add]
  unfold iat
  split at this
  · rename_i x e
    simp only[Bool.and_eq_true,decide_eq_true_eq] at this
    rw[e]
    exact⟨rfl,this.1,this.2⟩
  · cases this
theorem abc2:sum2 (#[.int .u8 97,.int .u8 98,.int .u8 99]:Array Value) 0 3= [186,120,22,191,143,1,207,234,65,65,64,222,93,174,34,35,176,3,97,163,150,23,122,156,180,16,255,97,242,0,21,173]:=by kernel_rfl
theorem abc5:sum5 (#[.int .u8 97,.int .u8 98,.int .u8 99]:Array Value) 0 3= [221,175,53,161,147,97,122,186,204,65,115,73,174,32,65,49,18,230,250,78,137,169,126,162,10,158,238,230,75,85,211,154,33,146,153,42,39,79,193,168,54,186,60,35,163,254,235,189,69,77,68,35,100,60,232,14,42,154,201,79,165,76,164,159]:=by kernel_rfl
theorem txt_eq {b s:ByteArray} (h:b=s):(b.toList == s.toList)=true:=by rw[h];exact beq_self_eq_true _
theorem Known6_c (g0 g1:Tq):Reads Tryd.prog 7 [(wA .u32 64 kL2,g0),(wA .u64 80 kL5,g1)] [] (.bool true) 2:=by
  refine reads_runs (fk:=2000002) (yty.enm tabS8 [mEnd] 2000002) Tryd.func7 (c:=bdy Tryd.f7) (by kernel_rfl) ⟨len2 _ _,by decide⟩ rfl (K:=fun e s=>e= .ret∧resS (yty.enm tabS8 [mEnd] 2000002) s Tryd.f7.results.toList=some [.bool true]) ?_ (fun e s h=>⟨h.1,_,h.2,rfl⟩)
  refine(kn6_r g0 g1 ⟨rfl,rfl,okB_at (by kernel_rfl),by decide,by decide,by decide⟩ ⟨rfl,rfl,okB_at (by kernel_rfl),by decide,by decide,by decide⟩ (wA_one _ _ _) (wA_one _ _ _) (by rw[abc2];exact⟨by kernel_rfl,by rw[wA_size];omega⟩) (by rw[abc5];exact⟨by kernel_rfl,by rw[wA_size];omega⟩) (by rw[abc2];exact txt_eq (by kernel_rfl)) (by rw[abc5];exact txt_eq (by kernel_rfl))).mono ?_
  rintro e s ⟨rfl,c,ch,hs⟩
  rw[abc2,abc5] at hs
  subst hs
  exact⟨rfl,by kernel_rfl⟩
def pKn6 : Entry Tryd.prog where
  f:=7
  ng:=2
  g := fun mem xs => match xs with
    | [] => (match mem[0]?, mem[1]? with
      |some (x0,_),some (x1,_)=>some (.bool true,(x0=wA .u32 64 kL2∧x1=wA .u64 80 kL5))
      |_,_=>none)
    |_=>none
  ok := fun mem xs v c e hc w β hw hg => by
    split at e
    · split at e
      · rename_i x0 g0 x1 g1 h0 h1
        simp only[Option.some.injEq,Prod.mk.injEq] at e
        obtain⟨rfl,rfl⟩:=e
        obtain⟨rfl,rfl⟩:=hc
        exact readsN rfl (Known6_c g0 g1) h0 h1 hw (hg 0 (by decide)) (hg 1 (by decide))
      · cases e
    · cases e
  call:=call_of Tryd.func7 (by kernel_rfl) (by kernel_rfl)
def tabS9:List (Entry Tryd.prog):=pKn6 :: tabS8

end Go.Proofs.YtpmkojinhebihaaDoor
