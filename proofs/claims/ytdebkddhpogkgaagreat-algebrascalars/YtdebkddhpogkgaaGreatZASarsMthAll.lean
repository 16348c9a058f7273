import Derived.Test.YtdebkddhpogkgaaGreatZASarsFermat
/-! Reckoning modulo p. -/
namespace Go.Proofs.YtdebkddhpogkgaaGreat
open Go.RowKit
theorem emm (X:Int):X%pr%pr=X%pr:=Int.emod_emod_of_dvd _ (Int.dvd_refl _)
theorem eml (X Y:Int):X%pr*Y%pr=X*Y%pr:=by rw[Int.mul_emod,emm,← Int.mul_emod]
theorem emr (X Y:Int):X*(Y%pr)%pr=X*Y%pr:=by rw[Int.mul_emod,emm,← Int.mul_emod]
theorem eal (X Y:Int):(X%pr+Y)%pr=(X+Y)%pr:=by rw[Int.add_emod,emm,← Int.add_emod]
theorem ear (X Y:Int):(X+Y%pr)%pr=(X+Y)%pr:=by rw[Int.add_emod,emm,← Int.add_emod]
theorem esl (X Y:Int):(X%pr - Y)%pr=(X - Y)%pr:=by rw[Int.sub_emod,emm,← Int.sub_emod]
theorem esr (X Y:Int):(X - Y%pr)%pr=(X - Y)%pr:=by rw[Int.sub_emod,emm,← Int.sub_emod]
theorem eng (X:Int): -(X%pr)%pr= -X%pr:=by have:=esr 0 X;simpa using this
theorem epw (X:Int):∀ n:Nat,(X%pr) ^ n%pr=X ^ n%pr
  |0=>by simp
  |n+1=>by rw[Int.pow_succ,Int.pow_succ,emr,← eml,epw X n,eml]
theorem pm_mod (X:Int) (n:Nat):pm (X%pr) n=pm X n:=epw X n
theorem pr_nat:pr=(prN:Int):=rfl
theorem fermatI (A:Int) (h:A%pr≠0):pm A (prN - 1)=1:=by
  have hb:0≤A%pr∧A%pr<pr:=by unfold pr;omega
  obtain⟨a,ha⟩:=Int.eq_ofNat_of_zero_le hb.1
  have h0 : ¬ prN ∣ a := by
    intro hd
    have hlt:a<prN:=by
      have:=hb.2
      rw[ha,pr_nat] at this
      exact Int.ofNat_lt.1 this
    have hz:a=0:=Nat.eq_zero_of_dvd_of_lt hd hlt
    apply h
    rw[ha,hz]
    rfl
  rw[← pm_mod,ha,pm_nat,fermat p255 h0]
  rfl
theorem pm_succ (A:Int) (n:Nat):A*pm A n%pr=pm A (n+1):=by
  unfold pm
  rw[emr,Int.pow_succ,Int.mul_comm]
theorem inv_ok (A:Int) (h:A%pr≠0):A*invF A%pr=1:=by
  unfold invF
  rw[pm_succ,show eInv.toNat+1=prN - 1 by kernel_rfl]
  exact fermatI A h
theorem no_div (A B:Int) (h:A*B%pr=0):A%pr=0∨B%pr=0:=by
  by_cases hA:A%pr=0
  · exact .inl hA
  · right
    have h1:invF A*(A*B)%pr=0:=by rw[← emr,h,Int.mul_zero];rfl
    rw[← Int.mul_assoc,Int.mul_comm (invF A),← eml,inv_ok A hA,Int.one_mul] at h1
    exact h1
end Go.Proofs.YtdebkddhpogkgaaGreat

/-! What a root's square is. -/
namespace Go.Proofs.YtdebkddhpogkgaaGreat
open Go.RowKit
theorem cmul {X X' Y Y':Int} (h1:X%pr=X'%pr) (h2:Y%pr=Y'%pr):X*Y%pr=X'*Y'%pr:=by
  rw[Int.mul_emod,h1,h2,← Int.mul_emod]
theorem czero {X Y:Int} (h:X%pr=Y%pr):(X - Y)%pr=0:=by unfold pr at *; omega
theorem czero' {X Y:Int} (h:(X - Y)%pr=0):X%pr=Y%pr:=by unfold pr at *; omega
theorem kU {k U:Int} (hk:k%pr≠0) (hU:U%pr≠0):k*U%pr≠0:=fun h=>by
  rcases no_div k U h with h|h
  · exact hk h
  · exact hU h
theorem kU2 {X k U:Int} (hk:k%pr≠0) (hU:U%pr≠0) (e:X=k*U):X%pr≠0:=by rw[e];exact kU hk hU
theorem rt_uv7 (U V:Int):rtUV7 U V%pr=U*(V*V*V)*(V*V*V)*V%pr:=by
  have hV3:rtV3 V%pr=V*V*V%pr:=by unfold rtV3;rw[emm,eml]
  have hUV3:rtUV3 U V%pr=U*(V*V*V)%pr:=by unfold rtUV3;rw[emm];exact cmul rfl hV3
  unfold rtUV7
  rw[emm,eml]
  exact cmul (cmul hUV3 hV3) rfl
theorem rt_r (U V:Int):rtR U V%pr=U*(V*V*V)*pm (rtUV7 U V) eRoot.toNat%pr:=by
  have hV3:rtV3 V%pr=V*V*V%pr:=by unfold rtV3;rw[emm,eml]
  have hUV3:rtUV3 U V%pr=U*(V*V*V)%pr:=by unfold rtUV3;rw[emm];exact cmul rfl hV3
  unfold rtR
  rw[emm]
  exact cmul hUV3 rfl
def qN:Nat:=(prN - 1) / 4
theorem rt_got0 (U V:Int):rtGot U V%pr=V*(rtR U V*rtR U V)%pr:=by
  unfold rtGot
  rw[emm,emr]
theorem rt_got (U V:Int):rtGot U V%pr=U*pm (rtUV7 U V) qN%pr:=by
  rw[rt_got0,cmul rfl (cmul (rt_r U V) (rt_r U V))]
  have e:∀ P:Int,V*((U*(V*V*V)*P)*(U*(V*V*V)*P))=U*((U*(V*V*V)*(V*V*V)*V)*(P*P)):=by intro P;grind
  rw[e,← cmul rfl (cmul (rt_uv7 U V) rfl),← emr,← emr (rtUV7 U V),pm_add,pm_succ]
  rw[show eRoot.toNat+eRoot.toNat+1=qN by kernel_rfl]
theorem i_sq:iNum*iNum%pr= -1%pr:=by kernel_rfl
theorem uv7_ne {U V:Int} (hU:U%pr≠0) (hV:V%pr≠0):rtUV7 U V%pr≠0:=by
  rw[rt_uv7]
  exact kU (kU (kU hU (kU (kU hV hV) hV)) (kU (kU hV hV) hV)) hV
theorem four (T:Int) (hT:T%pr≠0):(pm T qN)%pr=1%pr∨(pm T qN)%pr= -1%pr∨(pm T qN)%pr=iNum%pr∨(pm T qN)%pr= -iNum%pr:=by
  have h4:pm T qN*pm T qN*(pm T qN*pm T qN)%pr=1%pr:=by
    rw[← eml,← emr,pm_add,pm_add,show qN+qN+(qN+qN)=prN - 1 by kernel_rfl,fermatI T hT]
    rfl
  generalize pm T qN=E at h4
  have h5:=czero h4
  have e5:E*E*(E*E) - 1=(E*E - 1)*(E*E+1):=by grind
  rw[e5] at h5
  rcases no_div _ _ h5 with h|h
  · have e6 : E * E - 1 = (E - 1) * (E - -1) := by grind
    rw[e6] at h
    rcases no_div _ _ h with h|h
    · exact .inl (czero' h)
    · exact .inr (.inl (czero' h))
  · have h6 : (E * E - iNum * iNum) % pr = 0 := by
      rw[← esr,i_sq,esr]
      have:E*E - -1=E*E+1:=by omega
      rw[this];exact h
    have e6:E*E - iNum*iNum=(E - iNum)*(E - -iNum):=by grind
    rw[e6] at h6
    rcases no_div _ _ h6 with h|h
    · exact .inr (.inr (.inl (czero' h)))
    · exact .inr (.inr (.inr (czero' h)))
def rtWay (U V r:Int) (ok:Bool):Prop:=(rtTurned U V∧ok=true∧r=absF (iNum*rtR U V%pr))∨(¬ rtTurned U V∧rtLast U V∧ok=decide (rtGot U V%pr=U%pr)∧r=absF (iNum*rtR U V%pr))∨(¬ rtTurned U V∧¬ rtLast U V∧ok=decide (rtGot U V%pr=U%pr)∧r=absF (rtR U V))
theorem turned_iff (U V:Int):rtTurned U V↔rtGot U V%pr= -U%pr:=by unfold rtTurned;rw[emm]
theorem last_iff (U V:Int):rtLast U V↔rtGot U V%pr= -(iNum*U)%pr:=by
  unfold rtLast
  rw[emm,emr]
  have:iNum* -U= -(iNum*U):=by grind
  rw[this]
theorem two_ne:(2:Int)%pr≠0:=by decide
theorem ip_ne:(iNum+1)%pr≠0:=by decide
theorem im_ne:(iNum - 1)%pr≠0:=by decide
theorem i2_ne:(2*iNum)%pr≠0:=by decide
theorem i_ne:iNum%pr≠0:=by decide
theorem m1_ne:(-1:Int)%pr≠0:=by decide
theorem ir_sq (V R:Int):V*(iNum*R%pr*(iNum*R%pr))%pr= -(V*(R*R))%pr:=by
  rw[cmul (X:=V) rfl (show iNum*R%pr*(iNum*R%pr)%pr=iNum*R*(iNum*R)%pr by rw[eml,emr])]
  have e:V*(iNum*R*(iNum*R))=(V*(R*R))*(iNum*iNum):=by grind
  rw[e,cmul rfl i_sq]
  congr 1;grind
theorem root_all (U V : Int) : ∃ Z ok, rtWay U V (absF Z) ok ∧ ((U % pr = 0 ∧ Z % pr = 0 ∧ ok = true) ∨ (U % pr ≠ 0 ∧ V % pr = 0 ∧ Z % pr = 0 ∧ ok = false) ∨ (U % pr ≠ 0 ∧ V % pr ≠ 0 ∧ ok = true ∧ V * (Z * Z) % pr = U % pr) ∨ (U % pr ≠ 0 ∧ V % pr ≠ 0 ∧ ok = false ∧ V * (Z * Z) % pr = iNum * U % pr)) := by
  by_cases hU:U%pr=0
  · have h1 : rtTurned U V := by
      rw[turned_iff,rt_got,← eml,hU,Int.zero_mul]
      unfold pr at *; omega
    refine⟨iNum*rtR U V%pr,true,.inl ⟨h1,rfl,rfl⟩,.inl ⟨hU,?_,rfl⟩⟩
    rw[emm,cmul rfl (rt_r U V)]
    have e:iNum*(U*(V*V*V)*pm (rtUV7 U V) eRoot.toNat)=U*((V*V*V)*pm (rtUV7 U V) eRoot.toNat*iNum):=by grind
    rw[e,← eml,hU,Int.zero_mul]
    rfl
  · by_cases hV : V % pr = 0
    · have hR : rtR U V % pr = 0 := by
        rw[rt_r]
        have e:U*(V*V*V)*pm (rtUV7 U V) eRoot.toNat=V*(U*(V*V)*pm (rtUV7 U V) eRoot.toNat):=by grind
        rw[e,← eml,hV,Int.zero_mul]
        rfl
      have hG:rtGot U V%pr=0:=by
        rw[rt_got0,← eml,hV,Int.zero_mul]
        rfl
      have h1:¬ rtTurned U V:=by
        rw[turned_iff,hG]
        have:=kU2 (X:= -U) m1_ne hU (by omega)
        omega
      have h2:¬ rtLast U V:=by
        rw[last_iff,hG]
        have:=kU2 (X:= -(iNum*U)) m1_ne (kU i_ne hU) (by omega)
        omega
      refine⟨rtR U V,false,.inr (.inr ⟨h1,h2,?_,rfl⟩),.inr (.inl ⟨hU,hV,hR,rfl⟩)⟩
      rw[hG]
      exact(decide_eq_false (by omega)).symm
    · have hT := uv7_ne hU hV
      have hG:=rt_got U V
      have hG0:=rt_got0 U V
      rcases four _ hT with hE|hE|hE|hE
      · have hG' : rtGot U V % pr = U % pr := by rw [hG, cmul rfl hE, Int.mul_one]
        have h1:¬ rtTurned U V:=by
          rw[turned_iff,hG']
          intro h
          exact kU2 (X:=U - -U) two_ne hU (by omega) (czero h)
        have h2:¬ rtLast U V:=by
          rw[last_iff,hG']
          intro h
          exact kU2 (X:=U - -(iNum*U)) ip_ne hU (by grind) (czero h)
        refine⟨rtR U V,true,.inr (.inr ⟨h1,h2,(decide_eq_true hG').symm,rfl⟩),.inr (.inr (.inl ⟨hU,hV,rfl,?_⟩))⟩
        rw[← hG0,hG']
      · have hG' : rtGot U V % pr = -U % pr := by rw [hG, cmul rfl hE]; congr 1; omega
        refine⟨iNum*rtR U V%pr,true,.inl ⟨(turned_iff U V).2 hG',rfl,rfl⟩,.inr (.inr (.inl ⟨hU,hV,rfl,?_⟩))⟩
        rw[ir_sq,← eng,← hG0,hG',eng,Int.neg_neg]
      · have hG' : rtGot U V % pr = iNum * U % pr := by rw [hG, cmul rfl hE, Int.mul_comm]
        have h1:¬ rtTurned U V:=by
          rw[turned_iff,hG']
          intro h
          exact kU2 (X:=iNum*U - -U) ip_ne hU (by grind) (czero h)
        have h2:¬ rtLast U V:=by
          rw[last_iff,hG']
          intro h
          exact kU2 (X:=iNum*U - -(iNum*U)) i2_ne hU (by grind) (czero h)
        have h3:¬ rtGot U V%pr=U%pr:=by
          rw[hG']
          intro h
          exact kU2 (X:=iNum*U - U) im_ne hU (by grind) (czero h)
        refine⟨rtR U V,false,.inr (.inr ⟨h1,h2,(decide_eq_false h3).symm,rfl⟩),.inr (.inr (.inr ⟨hU,hV,rfl,?_⟩))⟩
        rw[← hG0,hG']
      · have hG' : rtGot U V % pr = -(iNum * U) % pr := by rw [hG, cmul rfl hE]; congr 1; grind
        have h1:¬ rtTurned U V:=by
          rw[turned_iff,hG']
          intro h
          exact kU2 (X:= -U - -(iNum*U)) im_ne hU (by grind) (czero h.symm)
        have h3:¬ rtGot U V%pr=U%pr:=by
          rw[hG']
          intro h
          exact kU2 (X:=U - -(iNum*U)) ip_ne hU (by grind) (czero h.symm)
        refine⟨iNum*rtR U V%pr,false,.inr (.inl ⟨h1,(last_iff U V).2 hG',(decide_eq_false h3).symm,rfl⟩),.inr (.inr (.inr ⟨hU,hV,rfl,?_⟩))⟩
        rw[ir_sq,← eng,← hG0,hG',eng,Int.neg_neg]
theorem neg_mod0 {X:Int} (h:X%pr=0): -X%pr=0:=by rw[← eng,h];rfl
theorem neg_mod1 {X:Int} (h:X%pr≠0): -X%pr=pr - X%pr:=by
  rw[← eng]
  have hb:0≤X%pr∧X%pr<pr:=by unfold pr;omega
  generalize X%pr=m at*
  unfold pr at *; omega
theorem abs_zero (X:Int) (h:X%pr=0):absF X=0:=by
  unfold absF
  rw[if_neg (by omega),h]
theorem abs_mod (X Y:Int) (h:X%pr=Y%pr):absF X=absF Y:=by
  unfold absF
  have: -X%pr= -Y%pr:=by rw[← eng,h,eng]
  rw[this,h]
theorem abs_neg (X:Int):absF (-X)=absF X:=by
  have hb:0≤X%pr∧X%pr<pr:=by unfold pr;omega
  unfold absF
  rw[Int.neg_neg]
  by_cases h:X%pr=0
  · rw[neg_mod0 h,h]
  · rw [neg_mod1 h]
    have hodd:(pr - X%pr)%2=1↔¬ X%pr%2=1:=by
      generalize X%pr=m at*
      unfold pr at *; omega
    by_cases h2:X%pr%2=1
    · rw[if_pos h2,if_neg (by rw[hodd];omega)]
    · rw[if_neg h2,if_pos (hodd.2 h2)]
theorem abs_of_sq (X Y:Int) (h:X*X%pr=Y*Y%pr):absF X=absF Y:=by
  have h1:=czero h
  have e:X*X - Y*Y=(X - Y)*(X - -Y):=by grind
  rw[e] at h1
  rcases no_div _ _ h1 with h|h
  · exact abs_mod X Y (czero' h)
  · rw[← abs_neg Y];exact abs_mod X (-Y) (czero' h)
def hN:Nat:=(prN - 1) / 2
theorem i_half:pm iNum hN= -1%pr:=by
  have h:=pm_nat iNum.toNat hN
  rw[← fpw_eq iNum.toNat prN 256 hN (of_decide_eq_true (by kernel_rfl))] at h
  exact h.trans (by kernel_rfl)
theorem sq_half (W:Int) (h:W%pr≠0):pm (W*W) hN=1:=by
  have e:(W*W) ^ hN=W ^ (2*hN):=by rw[Int.pow_mul,show W ^ 2=W*W by grind]
  unfold pm
  rw[e]
  have:=fermatI W h
  rw[show prN - 1=2*hN by kernel_rfl] at this
  exact this
end Go.Proofs.YtdebkddhpogkgaaGreat

/-! The document's root, by the quotient: the same as the program's. -/
namespace Go.Proofs.YtdebkddhpogkgaaGreat
open Go.RowKit
def e38:Nat:=(prN+3) / 8
def rx0 (s:Int):Int:=pm s e38
def rx (s:Int):Int:=if rx0 s*rx0 s%pr=s then rx0 s else rx0 s*iNum%pr
theorem pm_zero (n:Nat) (h:0<n):pm 0 n=0:=by
  unfold pm
  obtain⟨m,rfl⟩:∃ m,n=m+1:=⟨n - 1,by omega⟩
  rw[Int.pow_succ,Int.mul_zero]
  rfl
theorem half_one (Z:Int) (h:Z%pr≠0):pm Z hN%pr=1%pr∨pm Z hN%pr= -1%pr:=by
  have h2:pm Z hN*pm Z hN%pr=1%pr:=by
    rw[pm_add,show hN+hN=prN - 1 by kernel_rfl,fermatI Z h]
    rfl
  generalize pm Z hN=E at h2
  have h5:=czero h2
  have e6:E*E - 1=(E - 1)*(E - -1):=by grind
  rw[e6] at h5
  rcases no_div _ _ h5 with h|h
  · exact .inl (czero' h)
  · exact .inr (czero' h)
theorem pm_sq (Z:Int) (n:Nat):pm (Z*Z) n=pm Z (2*n):=by
  unfold pm
  rw[Int.pow_mul,show Z ^ 2=Z*Z by grind]
theorem ri_sq (R:Int):R*iNum%pr*(R*iNum%pr)%pr= -(R*R)%pr:=by
  rw[eml,emr]
  have e:R*iNum*(R*iNum)=(R*R)*(iNum*iNum):=by grind
  rw[e,cmul rfl i_sq]
  congr 1;grind
theorem rx_square (Z : Int) : rx (Z * Z % pr) * rx (Z * Z % pr) % pr = Z * Z % pr := by
  unfold rx
  split
  · assumption
  · rename_i hne
    rw[ri_sq]
    by_cases hZ:Z%pr=0
    · exfalso
      apply hne
      have hs:Z*Z%pr=0:=by rw[← eml,hZ,Int.zero_mul];rfl
      rw[hs]
      unfold rx0
      rw[pm_zero e38 (by decide)]
      rfl
    · have h1 : rx0 (Z * Z % pr) * rx0 (Z * Z % pr) % pr = Z * Z * pm Z hN % pr := by
        unfold rx0
        rw[pm_mod,pm_add,pm_sq,show 2*(e38+e38)=(hN+1)+1 by kernel_rfl,← pm_succ,← pm_succ,emr,Int.mul_assoc]
      rcases half_one Z hZ with h|h
      · exfalso
        apply hne
        rw[h1,cmul rfl h,Int.mul_one]
      · rw [← eng, h1, eng]
        have e: -(Z*Z*pm Z hN)=(-(Z*Z))*pm Z hN:=by grind
        rw[e,cmul rfl h]
        congr 1;grind
theorem i_nonsq (Z x:Int) (hZ:Z%pr≠0) (h:x*x%pr=iNum*(Z*Z)%pr):False:=by
  have h1:Z*Z%pr≠0:=kU hZ hZ
  have hx:x%pr≠0:=by
    intro h0
    have h5:x*x%pr=0:=by rw[← eml,h0,Int.zero_mul];rfl
    rw[h] at h5
    exact kU i_ne h1 h5
  have h6:pm (x*x) hN=pm (iNum*(Z*Z)) hN:=by rw[← pm_mod,h,pm_mod]
  rw[sq_half x hx] at h6
  unfold pm at h6
  rw[Int.mul_pow,Int.mul_emod] at h6
  have a1:=i_half
  have a2:=sq_half Z hZ
  unfold pm at a1 a2
  rw[a1,a2] at h6
  exact absurd h6 (by decide)
def quo (U V:Int):Int:=U*invF V%pr
theorem quo_mul (U V:Int) (hV:V%pr≠0):V*quo U V%pr=U%pr:=by
  unfold quo
  rw[emr]
  have e:V*(U*invF V)=U*(V*invF V):=by grind
  rw[e,cmul rfl (show V*invF V%pr=1%pr by rw[inv_ok V hV];rfl),Int.mul_one]
theorem can_V {V X Y:Int} (hV:V%pr≠0) (h:V*X%pr=V*Y%pr):X%pr=Y%pr:=by
  have h1:=czero h
  rw[show V*X - V*Y=V*(X - Y) by grind] at h1
  rcases no_div _ _ h1 with h|h
  · exact absurd h hV
  · exact czero' h
theorem same_ok (U V Z:Int) (hV:V%pr≠0) (h:V*(Z*Z)%pr=U%pr):rx (quo U V)*rx (quo U V)%pr=quo U V∧absF (rx (quo U V))=absF Z:=by
  have hq:Z*Z%pr=quo U V:=by
    have:=can_V hV (h.trans (quo_mul U V hV).symm)
    rw[this]
    unfold quo;rw[emm]
  have h1:=rx_square Z
  rw[hq] at h1
  exact⟨h1,abs_of_sq _ _ (h1.trans hq.symm)⟩
theorem same_no (U V Z:Int) (hU:U%pr≠0) (hV:V%pr≠0) (h:V*(Z*Z)%pr=iNum*U%pr):¬ rx (quo U V)*rx (quo U V)%pr=quo U V∧rx (quo U V*iNum%pr)*rx (quo U V*iNum%pr)%pr=quo U V*iNum%pr∧absF (rx (quo U V*iNum%pr))=absF Z:=by
  have hq:Z*Z%pr=quo U V*iNum%pr:=by
    apply can_V hV
    rw[h]
    have e:V*(quo U V*iNum)=(V*quo U V)*iNum:=by grind
    rw[e,cmul (quo_mul U V hV) rfl,Int.mul_comm]
  have h1:=rx_square Z
  rw[hq] at h1
  refine⟨fun hx=> ?_,h1,abs_of_sq _ _ (h1.trans hq.symm)⟩
  have hne:rx (quo U V)%pr≠0:=by
    intro h0
    have h5:quo U V=0:=by rw[← hx,← eml,h0,Int.zero_mul];rfl
    have h6:=quo_mul U V hV
    rw[h5,Int.mul_zero] at h6
    exact hU h6.symm
  refine i_nonsq (rx (quo U V)) Z hne ?_
  rw[hq,Int.mul_comm iNum]
  refine cmul ?_ rfl
  rw[hx]
  unfold quo;rw[emm]
end Go.Proofs.YtdebkddhpogkgaaGreat
