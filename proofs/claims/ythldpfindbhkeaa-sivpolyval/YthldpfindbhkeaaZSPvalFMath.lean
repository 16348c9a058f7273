import Derived.Test.YthldpfindbhkeaaZSPvalFermat
/-! Reckoning modulo p. -/
namespace Go.Proofs.Ythldpfindbhkeaa
open Go.RowKit
theorem emm (X:Int):X%pr%pr=X%pr:=Int.emod_emod_of_dvd _ (Int.dvd_refl _)
theorem eml (X Y:Int):X%pr*Y%pr=X*Y%pr:=by rw[Int.mul_emod,emm,← Int.mul_emod]
theorem emr (X Y:Int):X*(Y%pr)%pr=X*Y%pr:=by rw[Int.mul_emod,emm,← Int.mul_emod]
theorem eal (X Y:Int):(X%pr+Y)%pr=(X+Y)%pr:=by rw[Int.add_emod,emm,← Int.add_emod]
theorem ear (X Y:Int):(X+Y%pr)%pr=(X+Y)%pr:=by rw[Int.add_emod,emm,← Int.add_emod]
theorem epw (X:Int):∀ n:Nat,(X%pr) ^ n%pr=X ^ n%pr
  |0=>by simp
  |n+1=>by rw[Int.pow_succ,Int.pow_succ,emr,← eml,epw X n,eml]
theorem pm_mod (X:Int) (n:Nat):pm (X%pr) n=pm X n:=epw X n
theorem pr_nat:pr=(prN:Int):=rfl
theorem fermatI (A:Int) (h:A%pr≠0):pm A (prN - 1)=1:=by
  have hb:0≤A%pr∧A%pr<pr:=by unfold pr;omega
  obtain⟨a,ha⟩:=Int.eq_ofNat_of_zero_le hb.1
  have h0 : ¬ prN ∣ a := by
    intro hd
    have hlt:a<prN:=by
      have:=hb.2
      rw[ha,pr_nat] at this
      exact Int.ofNat_lt.1 this
    have hz:a=0:=Nat.eq_zero_of_dvd_of_lt hd hlt
    apply h
    rw[ha,hz]
    rfl
  rw[← pm_mod,ha,pm_nat,fermat p255 h0]
  rfl
theorem pm_succ (A:Int) (n:Nat):A*pm A n%pr=pm A (n+1):=by
  unfold pm
  rw[emr,Int.pow_succ,Int.mul_comm]
theorem inv_ok (A:Int) (h:A%pr≠0):A*invF A%pr=1:=by
  unfold invF
  rw[pm_succ,show eInv.toNat+1=prN - 1 by kernel_rfl]
  exact fermatI A h
theorem no_div (A B:Int) (h:A*B%pr=0):A%pr=0∨B%pr=0:=by
  by_cases hA:A%pr=0
  · exact .inl hA
  · right
    have h1:invF A*(A*B)%pr=0:=by rw[← emr,h,Int.mul_zero];rfl
    rw[← Int.mul_assoc,Int.mul_comm (invF A),← eml,inv_ok A hA,Int.one_mul] at h1
    exact h1
end Go.Proofs.Ythldpfindbhkeaa
