import Derived.Test.YtdebkddhpogkgaaGreatZASarsEdTAll
set_option linter.unusedSimpArgs false
set_option linter.unusedVariables false
namespace Go.Proofs.YtdebkddhpogkgaaGreat
open Go.RowKit Go.Num
def RepP (P:P4) (a:Pt):Prop:=Ok4 P∧Rep (fp P.X) (fp P.Y) (fp P.Z) (fp P.T) a
def RepN (R:P3) (a:Pt):Prop:=Nu3 R∧Rep3 (fp R.X) (fp R.Y) (fp R.Z) a
theorem fp_d2:fp d2N=2*dE:=by
  have h:fp d2N=fp (2*dN):=fp_eq.2 (by decide)
  rw[h,fp_mul]
  rfl
theorem rep_dbl {p:P4} {a:Pt} (h:RepP p a):RepP (dblP p) (a.add a):=by
  refine⟨ok4_dbl p,?_⟩
  simp only[dblP,quotP,fp_mod,fp_mul,fp_add,fp_sub]
  exact dbl_rep h.2 _ _ rfl rfl
theorem rep_addQ {p q:P4} {a b:Pt} (h:RepP p a) (k:RepP q b):RepP (addQ p q) (a.add b):=by
  refine⟨ok4_quot _ _ _ _,?_⟩
  simp only[addQ,quotP,pl,mi,zz,tt,fp_mod,fp_mul,fp_add,fp_sub,fp_d2]
  exact add_rep h.2 k.2 _ _ _ _ rfl rfl rfl rfl
theorem rep_uniq {X Y Z T:Fp} {a b:Pt} (h:Rep X Y Z T a) (k:Rep X Y Z T b):a=b:=(same_rep3 h.three k.three).1 ⟨rfl,rfl⟩
theorem rep_add {p q:P4} {a b:Pt} (h:RepP p a) (k:RepP q b):RepP (addP p q) (a.add b):=by
  unfold addP
  split
  · rename_i e
    obtain⟨e1,e2,e3,e4⟩:=e
    have k2:=k.2
    rw[← e1,← e2,← e3,← e4] at k2
    rw[← rep_uniq h.2 k2]
    exact rep_dbl h
  · exact rep_addQ h k
theorem rep_of {A B:Int} (hA:Ok A) (hB:Ok B) (on:OnC (fp A) (fp B)):RepP (ofP A B) ⟨fp A,fp B,on⟩:=by
  refine⟨ok4_of A B hA hB,?_⟩
  simp only[ofP,fp_mod,fp_mul,fp_one]
  exact rep_one ⟨fp A,fp B,on⟩
theorem rep_id:RepP (ofP 0 1) Pt.zero:=by
  refine⟨ok4_id,?_⟩
  simp only[ofP,fp_mod,fp_mul,fp_one,fp_zero]
  exact rep_one Pt.zero
theorem rep_base:RepP (ofP bxN byN) base:=rep_of ok_bx ok_by on_base
end Go.Proofs.YtdebkddhpogkgaaGreat

set_option linter.unusedSimpArgs false
set_option linter.unusedVariables false
namespace Go.Proofs.YtdebkddhpogkgaaGreat
open Go.RowKit Go.Num
theorem way_uniq {U V r:Int} {ok:Bool} (h:rtWay U V r ok):rootV U V=r∧rootB U V=ok:=by
  unfold rtWay rtTurned rtLast at h
  unfold rootV rootB
  rcases h with⟨h1,h2,h3⟩|⟨h1,h2,h3,h4⟩|⟨h1,h2,h3,h4⟩
  · rw[if_pos h1,if_pos h1,h2,h3];exact⟨rfl,rfl⟩
  · rw[if_neg h1,if_neg h1,if_pos h2,h3,h4];exact⟨rfl,rfl⟩
  · rw[if_neg h1,if_neg h1,if_neg h2,h3,h4];exact⟨rfl,rfl⟩
theorem root_cases (U V:Int):∃ Z,rootV U V=absF Z∧((U%pr=0∧Z%pr=0∧rootB U V=true)∨(U%pr≠0∧V%pr=0∧Z%pr=0∧rootB U V=false)∨(U%pr≠0∧V%pr≠0∧rootB U V=true∧V*(Z*Z)%pr=U%pr)∨(U%pr≠0∧V%pr≠0∧rootB U V=false∧V*(Z*Z)%pr=iNum*U%pr)):=by
  obtain⟨Z,ok,hw,h⟩:=root_all U V
  obtain⟨h1,h2⟩:=way_uniq hw
  subst h2
  exact⟨Z,h1,h⟩
theorem absR_F {x:Int} (h:0≤x∧x<pr):absR x=absF x:=by
  unfold absR absF
  rw[Int.emod_eq_of_lt h.1 h.2]
theorem quo_root (u v:Int) (hu:0≤u∧u<pr) (hv:0≤v∧v<pr) (h0:v%pr≠0):quoV u v=rootV u v∧quoB u v=rootB u v:=by
  obtain⟨Z,h1,h2⟩:=root_cases u v
  have eu:=Int.emod_eq_of_lt hu.1 hu.2
  have ev:=Int.emod_eq_of_lt hv.1 hv.2
  have v0:¬ v=0:=by rw[ev] at h0;exact h0
  unfold quoV quoB
  rw[h1]
  rcases h2 with⟨a,b,c⟩|⟨a,b,c,d⟩|⟨a,b,c,d⟩|⟨a,b,c,d⟩
  · rw [eu] at a
    rw[if_pos a,if_pos a,c,abs_zero Z b];exact⟨rfl,rfl⟩
  · exact absurd b h0
  · have a' := a
    rw[eu] at a
    obtain⟨s1,s2⟩:=same_ok u v Z h0 d
    rw[if_neg a,if_neg a,if_neg v0,if_neg v0,if_pos s1,decide_eq_true s1,c,absR_F (bd_rx _),s2];exact⟨rfl,rfl⟩
  · have a' := a
    rw[eu] at a
    obtain⟨s1,s2,s3⟩:=same_no u v Z a' h0 d
    rw[if_neg a,if_neg a,if_neg v0,if_neg v0,if_neg s1,decide_eq_false s1,c,absR_F (bd_rx _),s3];exact⟨rfl,rfl⟩
theorem fpU (y:Int):fp (atU y)=fp y*fp y - 1:=by
  unfold atU
  simp only[fp_mod,fp_mul,fp_sub,fp_one]
theorem fpV (y:Int):fp (atV y)=dE*(fp y*fp y)+1:=by
  unfold atV
  simp only[fp_mod,fp_mul,fp_add,fp_one]
  rfl
theorem one_ne:(1:Fp)≠0:=fun h=>by have:=congrArg Fin.val h;revert this;unfold prM;decide
theorem mz (d:Fp):d*((0:Fp)*0)+1=1:=by
  rw[Fin.mul_zero,Fin.mul_zero,Fin.zero_add]
theorem v_ne (y:Int):fp (atV y)≠0:=by
  rw[fpV]
  intro h
  by_cases hy:fp y=0
  · rw [hy] at h
    rw[mz] at h
    exact one_ne h
  · have hi := fi_ok hy
    have i2:=i_sqE
    apply d_nonsq (iE*fi (fp y))
    generalize fi (fp y)=j at hi
    generalize fp y=x at h hi
    generalize dE=d at h
    have a1:iE*j*(iE*j)=iE*iE*(j*j):=by clear h hi;grind -lia
    rw[a1,i2]
    have a2:d=d*((x*j)*(x*j)):=by rw[hi];grind -lia
    have a3:d*((x*j)*(x*j))=(d*(x*x))*(j*j):=by clear h hi a1 a2;grind -lia
    rw[a2,a3,show d*(x*x)= -1 by grind -lia]
theorem v_ne' (y:Int):atV y%pr≠0:=fp_ne0.1 (v_ne y)
theorem at_quo (y:Int):quoV (atU y) (atV y)=rootV (atU y) (atV y)∧quoB (atU y) (atV y)=rootB (atU y) (atV y):=quo_root _ _ (mod_bd _) (mod_bd _) (v_ne' y)
theorem nu3_at (y:Int) (o:Bool) (hy:0≤y∧y<pr):Nu3 (ratP y o):=by
  unfold ratP
  cases ratB y o with
  | true =>
    refine⟨?_,hy,bd_1⟩
    cases o with
    |true=>exact mod_bd _
    |false=>exact bd_quoV _ _
  |false=>exact⟨bd_0,bd_0,bd_0⟩
theorem root_of {X y:Int} (on:OnC (fp X) (fp y)):rootB (atU y) (atV y)=true∧rootV (atU y) (atV y)=absF X:=by
  have h:atV y*(X*X)%pr=atU y%pr:=by
    rw[← fp_eq,fp_mul,fp_mul,fpU,fpV]
    unfold OnC at on
    generalize dE=d at on ⊢
    generalize fp X=x at on ⊢
    generalize fp y=z at on ⊢
    grind -lia
  have v0:=v_ne' y
  obtain⟨Z,h1,h2⟩:=root_cases (atU y) (atV y)
  rcases h2 with⟨a,b,c⟩|⟨a,b,c,d⟩|⟨a,b,c,d⟩|⟨a,b,c,d⟩
  · refine ⟨c, ?_⟩
    rw[h1,abs_zero Z b]
    have hX:X%pr=0:=by
      rw[a] at h
      rcases no_div _ _ h with h|h
      · exact absurd h v0
      · rcases no_div _ _ h with h|h<;>exact h
    rw[abs_zero X hX]
  · exact absurd b v0
  · exact⟨c,by rw[h1];exact abs_of_sq Z X (can_V v0 (d.trans h.symm))⟩
  · exfalso
    have hX:X%pr≠0:=by
      intro hx
      apply a
      rw[← h,← emr,← eml X,hx,Int.zero_mul,Int.zero_emod,Int.mul_zero];rfl
    refine i_nonsq X Z hX (can_V v0 ?_)
    rw[d,← emr,← h,emr]
    congr 1;grind
theorem b_y:4*invF 5%pr=byN:=by
  have h1:(4:Int)=5*byN%pr:=by decide
  have h2:=inv_ok 5 (by decide)
  rw[h1,eml,show 5*byN*invF 5=byN*(5*invF 5) by grind,← emr,h2]
  decide
def rbP:P3:=ratP (4*invF 5%pr) false
theorem nu3_rb:Nu3 rbP:=nu3_at _ _ (mod_bd _)
theorem repn_base:RepN rbP base:=by
  obtain⟨r1,r2⟩:=root_of on_base
  obtain⟨q1,q2⟩:=at_quo byN
  have e : rbP = ⟨bxN, byN, 1⟩ := by
    unfold rbP ratP ratB ratX
    rw[b_y,q1,q2,r1,r2]
    have:absF bxN=bxN:=by
      unfold absF
      rw[if_neg (by decide)]
      decide
    rw[this]
    rfl
  rw[e]
  refine⟨⟨⟨by decide,by decide⟩,⟨by decide,by decide⟩,bd_1⟩,?_⟩
  simp only[fp_one]
  exact rep3_one base
end Go.Proofs.YtdebkddhpogkgaaGreat

set_option linter.unusedSimpArgs false
set_option linter.unusedVariables false
namespace Go.Proofs.YtdebkddhpogkgaaGreat
open Go.RowKit Go.Ev
def tab4:List (Entry Tryz.prog):=tab3
def rba_h (i:Nat):Hn:=⟨0,[],[],[],[]⟩
theorem rba_0:evF (yty.en tab4) rba_h Tryz.f47 [] []=some (.agg (rpC (ratP (nn (nuC (nn (nuC 4)*nn (nuC (invF (nn (nuC 5))))%pr))) (false))),((((((((((((True∧(IntKind.u64=IntKind.u64∧w64 4))∧(IntKind.u64=IntKind.u64∧w64 5))∧nuD.is (nuC 5))∧(nuD.is (nuC 4)∧nuD.is (nuC (invF (nn (nuC 5))))))∧nuD.is (nuC (nn (nuC 4)*nn (nuC (invF (nn (nuC 5))))%pr)))∧True)∧True)∧True)∧((rpC (ratP (nn (nuC (nn (nuC 4)*nn (nuC (invF (nn (nuC 5))))%pr))) (false))).all (fun v=>v.oneCell')=true))∧True)∧True)∧((rpC (ratP (nn (nuC (nn (nuC 4)*nn (nuC (invF (nn (nuC 5))))%pr))) (false))).all (fun v=>v.oneCell')=true))):=by kernel_rfl
def rba_F:Value:= .agg (rpC (ratP (nn (nuC (nn (nuC 4)*nn (nuC (invF (nn (nuC 5))))%pr))) (false)))
set_option maxHeartbeats 4000000 in
theorem rba_p:Pure Tryz.prog 47 #[] (rba_F):=by
  unfold rba_F
  exact pure_of mixed Tryz.func47 _ (rba_0) rfl ⟨⟨⟨⟨⟨⟨⟨⟨⟨⟨⟨⟨trivial,⟨rfl,⟨by decide,by decide⟩⟩⟩,⟨rfl,⟨by decide,by decide⟩⟩⟩,(nuD.is_enc ⟨by decide,by decide⟩)⟩,⟨(nuD.is_enc ⟨by decide,by decide⟩),(nuD.is_enc (bd_inv _))⟩⟩,(nuD.is_enc (mod_bd _))⟩,trivial⟩,trivial⟩,trivial⟩,rpC_one _⟩,trivial⟩,trivial⟩,rpC_one _⟩
def rba_R:P3:=ratP ((4*(invF (5))%pr)) (false)
def rba_S:Value:= .agg (rpC (rba_R))
theorem rba_e:rba_F=rba_S:=by
  unfold rba_F rba_S rba_R
  try simp only[nm_mod,nn_mod,nm_inv,nn_inv,nm_d,nn_d,nm_1,nn_1,nm_root,nn_quo,nn_nuC 4 ⟨by decide,by decide⟩,nn_nuC 5 ⟨by decide,by decide⟩]
theorem RBase_c:Pure Tryz.prog 47 #[] (.agg (rpC rbP)):=by
  have h:=rba_p
  rwa[rba_e] at h
def qBase:Entry Tryz.prog:=ent0 Tryz.func47 (by kernel_rfl) (by kernel_rfl) (.agg (rpC rbP)) RBase_c
def tab5:List (Entry Tryz.prog):=qBase :: tab4
def tab6:List (Entry Tryz.prog):=tab5
end Go.Proofs.YtdebkddhpogkgaaGreat
