import Derived.Test.YtdebkddhpogkgaaZABackPrime
import Derived.Test.YtdebkddhpogkgaaZABackRzBll
set_option linter.unusedSimpArgs false
/-! l is a prime: reckoning modulo l. -/
namespace Go.Proofs.Ytdebkddhpogkgaa
open Go.RowKit Go.Arr Go.Num
def elN:Nat:=7237005577332262213973186563042994240857116359379907606001950938285454250989
theorem q1224481:IsP 1224481:=isP_small 1224481 1106 (by decide) (by kernel_rfl) (by decide)
theorem q531581:IsP 531581:=isP_small 531581 729 (by decide) (by kernel_rfl) (by decide)
theorem q1257559732178653:IsP 1257559732178653:=isP_two 1257559732178653 1224481 531581 2 2 51 (by decide) q1224481 q531581 (by kernel_rfl) (by decide) (by kernel_rfl) (by kernel_rfl) (by kernel_rfl) (by kernel_rfl) (by kernel_rfl) (by kernel_rfl) (by decide)
theorem q4434155615661930479:IsP 4434155615661930479:=isP_by 4434155615661930479 1257559732178653 2 62 (by decide) q1257559732178653 (by decide) (by kernel_rfl) (by kernel_rfl) (by kernel_rfl) (by decide)
theorem q172054593956031949258510691:IsP 172054593956031949258510691:=isP_by 172054593956031949258510691 4434155615661930479 2 88 (by decide) q4434155615661930479 (by decide) (by kernel_rfl) (by kernel_rfl) (by kernel_rfl) (by decide)
theorem q19757330305831588566944191468367130476339:IsP 19757330305831588566944191468367130476339:=isP_by 19757330305831588566944191468367130476339 172054593956031949258510691 2 134 (by decide) q172054593956031949258510691 (by decide) (by kernel_rfl) (by kernel_rfl) (by kernel_rfl) (by decide)
theorem q276602624281642239937218680557139826668747:IsP 276602624281642239937218680557139826668747:=isP_by 276602624281642239937218680557139826668747 19757330305831588566944191468367130476339 2 138 (by decide) q19757330305831588566944191468367130476339 (by decide) (by kernel_rfl) (by kernel_rfl) (by kernel_rfl) (by decide)
theorem q7237005577332262213973186563042994240857116359379907606001950938285454250989:IsP 7237005577332262213973186563042994240857116359379907606001950938285454250989:=isP_by 7237005577332262213973186563042994240857116359379907606001950938285454250989 276602624281642239937218680557139826668747 2 253 (by decide) q276602624281642239937218680557139826668747 (by decide) (by kernel_rfl) (by kernel_rfl) (by kernel_rfl) (by decide)
theorem el_prime:IsP elN:=q7237005577332262213973186563042994240857116359379907606001950938285454250989
theorem el_nat:el=(elN:Int):=rfl
theorem pe_nat (a n:Nat):pe (a:Int) n=((a ^ n%elN:Nat):Int):=by
  unfold pe
  rw[Int.natCast_emod,Int.natCast_pow]
  rfl
theorem lpw (X:Int):∀ n:Nat,(X%el) ^ n%el=X ^ n%el
  |0=>by simp
  |n+1=>by rw[Int.pow_succ,Int.pow_succ,lmr,← lml,lpw X n,lml]
theorem pe_mod (X:Int) (n:Nat):pe (X%el) n=pe X n:=lpw X n
theorem fermatE (A:Int) (h:A%el≠0):pe A (elN - 1)=1:=by
  have hb:0≤A%el∧A%el<el:=by unfold el;omega
  obtain⟨a,ha⟩:=Int.eq_ofNat_of_zero_le hb.1
  have h0 : ¬ elN ∣ a := by
    intro hd
    have hlt:a<elN:=by
      have:=hb.2
      rw[ha,el_nat] at this
      exact Int.ofNat_lt.1 this
    have hz:a=0:=Nat.eq_zero_of_dvd_of_lt hd hlt
    apply h
    rw[ha,hz]
    rfl
  rw[← pe_mod,ha,pe_nat,fermat el_prime h0]
  rfl
theorem inv_el (A:Int) (h:A%el≠0):A*invE A%el=1:=by
  unfold invE
  rw[Int.mul_comm,pe_succ,show eE+1=elN - 1 by kernel_rfl]
  exact fermatE A h
end Go.Proofs.Ytdebkddhpogkgaa
