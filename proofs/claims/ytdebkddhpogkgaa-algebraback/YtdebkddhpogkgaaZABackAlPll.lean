import Derived.Test.YtdebkddhpogkgaaZABackRiMAll
import Derived.Test.YtdebkddhpogkgaaZABackRzMath
set_option linter.unusedSimpArgs false
set_option linter.unusedVariables false
/-! How many points there are. -/
namespace Go.Proofs.Ytdebkddhpogkgaa
open Go.RowKit Go.Num
theorem nd_of (L : List Pt) : ∃ M : List Pt, M.Nodup ∧ (∀ a, a ∈ M ↔ a ∈ L) ∧ M.length ≤ L.length := by
  induction L with
  |nil=>exact⟨[],List.nodup_nil,fun _=>Iff.rfl,Nat.le_refl _⟩
  | cons a r ih =>
    obtain⟨M,h1,h2,h3⟩:=ih
    by_cases h:a ∈ M
    · refine ⟨M, h1, fun b => ?_, by simp only [List.length_cons]; omega⟩
      rw[List.mem_cons,h2]
      constructor
      · exact .inr
      · rintro (rfl | hb)
        · exact(h2 b).1 h
        · exact hb
    · refine ⟨a :: M, List.nodup_cons.2 ⟨h, h1⟩, fun b => ?_, by simp only [List.length_cons]; omega⟩
      rw[List.mem_cons,List.mem_cons,h2]
def lsum:List Pt→Pt
  | []=>Pt.zero
  |a :: r=>a.add (lsum r)
theorem lsum_mid (s t:List Pt) (a:Pt):lsum (s ++ a :: t)=a.add (lsum (s ++ t)):=by
  induction s with
  |nil=>rfl
  | cons b s ih =>
    show b.add (lsum (s ++ a :: t))=a.add (b.add (lsum (s ++ t)))
    rw[ih,← Pt.add_assoc,← Pt.add_assoc,Pt.add_comm b a]
theorem lsum_same (L : List Pt) : ∀ M : List Pt, L.Nodup → M.Nodup → (∀ a, a ∈ L ↔ a ∈ M) → lsum L = lsum M := by
  induction L with
  | nil =>
    intro M _ _ h
    cases M with
    |nil=>rfl
    |cons b r=>exact absurd ((h b).2 List.mem_cons_self) (by simp)
  | cons a r ih =>
    intro M h1 h2 h
    obtain⟨s,t,rfl⟩:=List.append_of_mem ((h a).1 List.mem_cons_self)
    rw[lsum_mid]
    show a.add (lsum r)=_
    rw[ih (s ++ t) (List.nodup_cons.1 h1).2 ?_ ?_]
    · have := h2
      rw[List.nodup_append] at this
      rw[List.nodup_append]
      refine⟨this.1,(List.nodup_cons.1 this.2.1).2,fun x hx y hy=>this.2.2 x hx y (List.mem_cons_of_mem _ hy)⟩
    · intro b
      have hab:a ∉ s∧a ∉ t:=by
        have:=h2
        rw[List.nodup_append] at this
        exact⟨fun q=>this.2.2 a q a List.mem_cons_self rfl,(List.nodup_cons.1 this.2.1).1⟩
      have hb:=h b
      simp only[List.mem_cons,List.mem_append] at hb ⊢
      by_cases e:b=a
      · subst e
        constructor
        · intro q;exact absurd q (List.nodup_cons.1 h1).1
        · rintro (q | q)
          · exact absurd q hab.1
          · exact absurd q hab.2
      · constructor
        · intro q
          rcases hb.1 (.inr q) with q|q|q
          · exact .inl q
          · exact absurd q e
          · exact .inr q
        · intro q
          rcases hb.2 (by rcases q with q|q;exact .inl q;exact .inr (.inr q)) with q|q
          · exact absurd q e
          · exact q
theorem lsum_map (x:Pt) (L:List Pt):lsum (L.map fun a=>x.add a)=(Pt.tm L.length x).add (lsum L):=by
  induction L with
  |nil=>show Pt.zero=(Pt.tm 0 x).add Pt.zero;rw[Pt.tm_0,Pt.add_zero]
  | cons a r ih =>
    show(x.add a).add (lsum (r.map fun a=>x.add a))=(Pt.tm (r.length+1) x).add (a.add (lsum r))
    rw[ih,Pt.tm_s,Pt.add_assoc,Pt.add_assoc,← Pt.add_assoc a,Pt.add_comm a,Pt.add_assoc,← Pt.add_assoc x,Pt.add_comm x,Pt.add_assoc]
theorem add_can {a b c:Pt} (h:a.add b=a.add c):b=c:=by
  have:a.neg.add (a.add b)=a.neg.add (a.add c):=by rw[h]
  rwa[← Pt.add_assoc,← Pt.add_assoc,Pt.add_comm a.neg,Pt.add_neg,Pt.zero_add,Pt.zero_add] at this
theorem all_tm {M:List Pt} (h1:M.Nodup) (h2:∀ a,a ∈ M) (x:Pt):Pt.tm M.length x=Pt.zero:=by
  have h3 : lsum (M.map fun a => x.add a) = lsum M := by
    refine lsum_same _ _ ?_ h1 (fun a=>⟨fun _=>h2 a,fun _=> ?_⟩)
    · rw [List.nodup_iff_pairwise_ne, List.pairwise_map]
      exact(List.nodup_iff_pairwise_ne.1 h1).imp fun hne e=>hne (add_can e)
    · exact List.mem_map.2 ⟨x.neg.add a,h2 _,by rw[← Pt.add_assoc,Pt.add_neg,Pt.zero_add]⟩
  rw[lsum_map,Pt.add_comm] at h3
  have:(lsum M).add (Pt.tm M.length x)=(lsum M).add Pt.zero:=by rw[h3,Pt.add_zero]
  exact add_can this
theorem two_y {x y z:Fp} (h:OnC x y) (k:OnC x z):z=y∨z= -y:=by
  refine fsq ?_
  have hd : 1 - dE * x * x ≠ 0 := fun e => by
    by_cases hx:x=0
    · rw [hx, mul_z, sub0] at e
      exact one_ne e
    · apply d_nonsq (fi x)
      have h1:=fi_ok hx
      grind -lia
  refine fcan hd ?_
  unfold OnC at h k
  grind -lia
theorem pts_ex (X : List Fp) : ∃ L : List Pt, (∀ a : Pt, a.x ∈ X → a ∈ L) ∧ L.length ≤ 2 * X.length := by
  induction X with
  |nil=>exact⟨[],fun a h=>by simp at h,Nat.le_refl _⟩
  | cons x r ih =>
    obtain⟨L,h1,h2⟩:=ih
    by_cases h:∃ y,OnC x y
    · obtain ⟨y, hy⟩ := h
      have hn:OnC x (-y):=by unfold OnC at hy ⊢; grind -lia
      refine⟨⟨x,y,hy⟩ :: ⟨x,-y,hn⟩ :: L,fun a ha=> ?_,by simp only[List.length_cons];omega⟩
      rcases List.mem_cons.1 ha with e|ha
      · have hon := a.on
        rw[e] at hon
        rcases two_y hy hon with q|q
        · rw[show a=⟨x,y,hy⟩ from Pt.eq e q];exact List.mem_cons_self
        · rw[show a=⟨x,-y,hn⟩ from Pt.eq e q];exact List.mem_cons_of_mem _ List.mem_cons_self
      · exact List.mem_cons_of_mem _ (List.mem_cons_of_mem _ (h1 a ha))
    · refine ⟨L, fun a ha => ?_, by simp only [List.length_cons]; omega⟩
      rcases List.mem_cons.1 ha with e|ha
      · exact absurd ⟨a.y,by rw[← e];exact a.on⟩ h
      · exact h1 a ha
theorem fps:∃ X:List Fp,X.length=prM+1∧∀ x,x ∈ X:=⟨List.finRange _,List.length_finRange,List.mem_finRange⟩
theorem all_ex:∃ M:List Pt,M.Nodup∧(∀ a,a ∈ M)∧M.length≤2*(prM+1):=by
  obtain⟨X,hX,hx⟩:=fps
  obtain⟨L,h1,h2⟩:=pts_ex X
  obtain⟨M,m1,m2,m3⟩:=nd_of L
  rw[hX] at h2
  exact⟨M,m1,fun a=>(m2 a).2 (h1 a (hx _)),Nat.le_trans m3 h2⟩
def t8x:Int:=14399317868200118260347934320527232580618823971194345261214217575416788799818
def t8y:Int:=55188659117513257062467267217118295137698188065244968500265048394206261417927
theorem on_t8:OnC (fp t8x) (fp t8y):=by
  unfold OnC dE
  simp only[← fp_mul,← fp_sub,← fp_one]
  rw[fp_eq0]
  kernel_rfl
def t8:Pt:=⟨fp t8x,fp t8y,on_t8⟩
theorem t8_2:t8.add t8=Pt.zero.flip.opp:=by
  refine(Pt.add_of ?_ ?_).symm
  · show -(iE * 1) * (1 + dE * fp t8x * fp t8x * fp t8y * fp t8y) = fp t8x * fp t8y + fp t8x * fp t8y
    unfold dE iE
    rw[← fp_one]
    simp only[← fp_mul,← fp_add,← fp_neg]
    rw[fp_eq]
    kernel_rfl
  · show -(iE * 0) * (1 - dE * fp t8x * fp t8x * fp t8y * fp t8y) = fp t8y * fp t8y + fp t8x * fp t8x
    rw[mul_z,neg0,z_mul,show(0:Fp)=fp 0 from rfl]
    simp only[← fp_mul,← fp_add]
    rw[fp_eq]
    kernel_rfl
theorem ozero_ne:Pt.zero.opp≠Pt.zero:=fun e=>by
  have:(Pt.zero.opp).y=Pt.zero.y:=by rw[e]
  rw[opp_y,zero_y] at this
  rw[← fp_one,← fp_neg,fp_eq] at this
  exact absurd this (by decide)
theorem t8_4:Pt.tm 4 t8=Pt.zero.opp:=by
  rw[show 4=2*2 from rfl,Pt.tm_two,t8_2,show 2=2*1 from rfl,Pt.tm_two,Pt.tm_one,add_fozero,flip_opp,flip_flip,opp_opp]
theorem t8_8:Pt.tm 8 t8=Pt.zero:=by
  rw[show 8=2*4 from rfl,Pt.tm_dbl,t8_4,add_ozero,opp_opp]
end Go.Proofs.Ytdebkddhpogkgaa

set_option linter.unusedSimpArgs false
set_option linter.unusedVariables false
/-! Each point's order. -/
namespace Go.Proofs.Ytdebkddhpogkgaa
open Go.RowKit Go.Num
theorem tm_mod {x:Pt} {m:Nat} (h:Pt.tm m x=Pt.zero) (n:Nat):Pt.tm (n%m) x=Pt.tm n x:=by
  conv=>rhs;rw[← Nat.mod_add_div n m,Nat.mul_comm m,Pt.tm_add,Pt.tm_mul,h,Pt.tm_zero,Pt.add_zero]
theorem el_bs:Pt.tm elN base=Pt.zero:=el_base
theorem base_ne:base≠Pt.zero:=fun e=>by
  have:base.x=Pt.zero.x:=by rw[e]
  rw[zero_x,show base.x=fp bxN from rfl,show(0:Fp)=fp 0 from rfl,fp_eq] at this
  exact absurd this (by decide)
theorem ord_base (r : Nat) : 0 < r → r < elN → Pt.tm r base ≠ Pt.zero := by
  induction r using Nat.strongRecOn with
  | ind r ih =>
    intro h0 h1 h
    by_cases e:r=1
    · rw[e,Pt.tm_one] at h;exact base_ne h
    · have hs : Pt.tm (elN % r) base = Pt.zero := by
        rw[tm_mod h];exact el_bs
      have hlt:=Nat.mod_lt elN h0
      have hne:elN%r≠0:=fun q=>by
        rcases el_prime.2 r (Nat.dvd_of_mod_eq_zero q) with q|q
        · exact e q
        · omega
      exact ih (elN%r) hlt (by omega) (by omega) hs
theorem el_dvd {n:Nat} (h:Pt.tm n base=Pt.zero):n%elN=0:=by
  have h2:Pt.tm (n%elN) base=Pt.zero:=by rw[tm_mod el_bs];exact h
  have hlt:=Nat.mod_lt n (show 0<elN by unfold elN;omega)
  by_cases e:n%elN=0
  · exact e
  · exact absurd h2 (ord_base _ (by omega) hlt)
theorem eight_dvd {n:Nat} (h:Pt.tm n t8=Pt.zero):n%8=0:=by
  have h2:Pt.tm (n%8) t8=Pt.zero:=by rw[tm_mod t8_8];exact h
  have key:∀ k,k*(n%8)%8=4→False:=fun k hk=>by
    have:Pt.tm (k*(n%8)%8) t8=Pt.zero:=by rw[tm_mod t8_8,Pt.tm_mul,h2,Pt.tm_zero]
    rw[hk,t8_4] at this
    exact ozero_ne this
  have hlt:=Nat.mod_lt n (show 0<8 by omega)
  generalize n%8=r at h2 key hlt
  have hc:r=0∨r=1∨r=2∨r=3∨r=4∨r=5∨r=6∨r=7:=by omega
  rcases hc with rfl|rfl|rfl|rfl|rfl|rfl|rfl|rfl
  · rfl
  · exact(key 4 rfl).elim
  · exact(key 2 rfl).elim
  · exact(key 4 rfl).elim
  · exact(key 1 rfl).elim
  · exact(key 4 rfl).elim
  · exact(key 2 rfl).elim
  · exact(key 4 rfl).elim
theorem ord_all (x:Pt):Pt.tm (8*elN) x=Pt.zero:=by
  obtain⟨M,h1,h2,h3⟩:=all_ex
  have hb:=el_dvd (all_tm h1 h2 base)
  have h8:=eight_dvd (all_tm h1 h2 t8)
  have h0:0<M.length:=List.length_pos_of_mem (h2 Pt.zero)
  obtain⟨q,hq⟩:=Nat.dvd_of_mod_eq_zero hb
  have hlt : q < 16 := by
    have h4:elN*q<elN*16:=by
      rw[← hq]
      exact Nat.lt_of_le_of_lt h3 (by decide)
    exact Nat.lt_of_mul_lt_mul_left h4
  have hn : M.length = 8 * elN := by
    rw[hq] at h8 h0 ⊢
    have h5:elN%8=5:=by decide
    have h6:q%8=0:=by
      rw[Nat.mul_mod,h5] at h8
      omega
    have h7:q≠0:=fun e=>by rw[e,Nat.mul_zero] at h0;exact absurd h0 (by decide)
    have:q=8:=by omega
    rw[this,Nat.mul_comm]
  rw[← hn]
  exact all_tm h1 h2 x
theorem two_tor {w:Pt} (h:w.add w=Pt.zero):w=Pt.zero∨w=Pt.zero.opp:=by
  have e:=Pt.neg_of h
  have hx:w.x= -w.x:=congrArg Pt.x e
  have hx0:w.x=0:=by
    have h2:w.x*2=0*2:=by grind -lia
    exact fcan two_fp h2
  have hon:=w.on
  unfold OnC at hon
  rw[hx0] at hon
  have hy:w.y*w.y=1*1:=by grind -lia
  rcases fsq hy with q|q
  · exact .inl (Pt.eq (by rw[hx0,zero_x]) (by rw[q,zero_y]))
  · exact .inr (Pt.eq (by rw[hx0,opp_x,zero_x,neg0]) (by rw[q,opp_y,zero_y]))
theorem two_opp {v:Pt} (h:v.add v=Pt.zero.opp):v=Pt.zero.flip∨v=Pt.zero.flip.opp:=by
  have hf:Pt.zero.flip.add Pt.zero.flip=Pt.zero.opp:=by rw[add_fzero,flip_flip]
  have h2:(v.add Pt.zero.flip.neg).add (v.add Pt.zero.flip.neg)=Pt.zero:=by
    rw[Pt.add_assoc,← Pt.add_assoc _ v,Pt.add_comm _ v,Pt.add_assoc v,← Pt.add_assoc,h,← hf,Pt.add_assoc,← Pt.add_assoc Pt.zero.flip Pt.zero.flip.neg,Pt.add_neg,Pt.zero_add,Pt.add_neg]
  have back:∀ q,v.add Pt.zero.flip.neg=q→v=q.add Pt.zero.flip:=fun q e=>by
    rw[← e,Pt.add_assoc,Pt.add_comm _ Pt.zero.flip,Pt.add_neg,Pt.add_zero]
  rcases two_tor h2 with q|q
  · exact .inl (by rw[back _ q,Pt.zero_add])
  · exact .inr (by rw[back _ q,Pt.add_comm,add_ozero])
end Go.Proofs.Ytdebkddhpogkgaa

set_option linter.unusedSimpArgs false
set_option linter.unusedVariables false
/-! Scalars count by their rest modulo l. -/
namespace Go.Proofs.Ytdebkddhpogkgaa
open Go.RowKit
def qrN:Nat:=14474011154664524427946373126085988481658748083205070504932198000989141204987
theorem h_quart:fpw 37095705934669439343138083508754565189542113879843219016388785533085940283556 prN 256 qrN=prN - 1:=by kernel_rfl
theorem no_four {r t:Fp} (h:r*r=1+dE) (ht:t*t=r):False:=by
  have t0:t≠0:=fun e=>by
    rw[e,z_mul] at ht
    rw[← ht,z_mul] at h
    unfold dE at h
    rw[← fp_one,← fp_add,show(0:Fp)=fp 0 from rfl,fp_eq] at h
    exact absurd h (by decide)
  rw[← fp_surj t] at ht t0
  generalize(t.val:Int)=x at ht t0
  rw[← ht] at h
  unfold dE at h
  rw[← fp_one,← fp_mul,← fp_mul,← fp_add,fp_eq] at h
  have h1:=sq_half x (fp_ne0.1 t0)
  have h2:pm (x*x) hN=pm (x*x*(x*x)) qrN:=by
    unfold pm
    rw[show hN=2*qrN by decide,Int.pow_mul,show(x*x) ^ 2=x*x*(x*x) by rw[Int.pow_succ,Int.pow_succ,Int.pow_zero,Int.one_mul]]
  rw[h2,← pm_mod,h,pm_mod] at h1
  have h3:pm (1+dN) qrN=((prN - 1:Nat):Int):=by
    rw[show(1+dN:Int)=((37095705934669439343138083508754565189542113879843219016388785533085940283556:Nat):Int) from rfl,pm_nat,← fpw_eq _ _ 256 qrN (by unfold qrN;decide),h_quart]
  rw[h3] at h1
  exact absurd h1 (by unfold prN;decide)
theorem evn_tm {a:Pt} (h:Evn a) (n:Nat):Evn (Pt.tm n a):=by
  induction n with
  |zero=>rw[Pt.tm_0];exact evn_zero
  |succ n ih=>rw[Pt.tm_s];exact evn_add ih h
theorem no_y0 {z:Pt} (he:Evn z) (h:(z.add z).y=0):False:=by
  obtain⟨s,hs⟩:=he
  have h1:=Pt.add_y z z
  rw[h,z_mul] at h1
  have hon:=z.on
  unfold OnC at hon
  have hx:z.x*z.x= -(z.y*z.y):=by grind -lia
  have hq:dE*(z.y*z.y)*(z.y*z.y)=1 - 2*(z.y*z.y):=by grind -lia
  have hy:z.y≠0:=fun e=>by
    rw[e] at hq
    have:(1:Fp)=0:=by rw[mul_z,mul_z,mul_z,sub0] at hq;exact hq.symm
    exact one_ne this
  have hf:=fi_ok hy
  refine no_four (r:=dE*(z.y*z.y)+1) (t:=s*fi z.y) ?_ ?_
  · grind -lia
  · refine fcan (c := z.y * z.y) (fmul_ne hy hy) ?_
    have e1:s*fi z.y*(s*fi z.y)*(z.y*z.y)=s*s*((z.y*fi z.y)*(z.y*fi z.y)):=by grind -lia
    rw[e1,hf,mul1,mul1,hs]
    grind -lia
theorem tor8 {z:Pt} (he:Evn z) (h:Pt.tm 8 z=Pt.zero):Cos Pt.zero z:=by
  rw[show 8=2*4 from rfl,Pt.tm_dbl] at h
  have e4:Pt.tm 4 z=(Pt.tm 2 z).add (Pt.tm 2 z):=by rw[show 4=2*2 from rfl,Pt.tm_dbl]
  have e2:Pt.tm 2 z=z.add z:=by rw[show 2=2*1 from rfl,Pt.tm_dbl,Pt.tm_one]
  rcases two_tor h with h4|h4
  · rw [e4] at h4
    rcases two_tor h4 with h2|h2
    · rw [e2] at h2
      rcases two_tor h2 with q|q
      · exact .inl q
      · exact .inr (.inl q)
    · rw [e2] at h2
      rcases two_opp h2 with q|q
      · exact .inr (.inr (.inl q))
      · exact .inr (.inr (.inr q))
  · rw [e4] at h4
    exfalso
    rcases two_opp h4 with q|q
    · rw [e2] at q
      exact no_y0 he (by rw[q,flip_y,zero_x,mul_z])
    · rw [e2] at q
      exact no_y0 he (by rw[q,opp_y,flip_y,zero_x,mul_z,neg0])
theorem cos_el {a:Pt} (h:Evn a) (q:Nat):Cos Pt.zero (Pt.tm (elN*q) a):=
  tor8 (evn_tm h _) (by rw[← Pt.tm_mul,← Nat.mul_assoc,Pt.tm_mul];exact ord_all _)
theorem enc_el {a:Pt} (h:Evn a) (n:Nat):enc (Pt.tm n a)=enc (Pt.tm (n%elN) a):=by
  obtain⟨t,_,e,hc⟩:=cos_add (cos_el h (n / elN))
  have h1:=hc (Pt.tm (n%elN) a)
  rw[Pt.add_zero,← Pt.tm_add,Nat.mod_add_div] at h1
  exact enc_cos (evn_tm h _) h1
end Go.Proofs.Ytdebkddhpogkgaa
