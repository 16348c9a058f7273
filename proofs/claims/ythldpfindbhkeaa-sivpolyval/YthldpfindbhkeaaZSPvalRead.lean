import Derived.Test.YthldpfindbhkeaaZSPvalBytes
import Derived.Test.YthldpfindbhkeaaZSPvalSchAll
set_option linter.unusedSimpArgs false
namespace Go.Proofs.Ythldpfindbhkeaa
open Go.RowKit

theorem set_q1 (a b c d x:Value):(#[a,b,c,d]:Array Value).setIfInBounds 1 x= #[a,x,c,d]:=rfl
theorem hi1 (a t z:Int) (ha:0≤a) (ha':a<18446744073709551616) (h0:0≤t) (h1:0≤z) (h2:t+z<18446744073709551616):(feC (a+18446744073709551616*t))[1]? =some (.int .u64 t)∧(feC (a+18446744073709551616*t)).setIfInBounds 1 (.int .u64 (t+z))=feC (a+18446744073709551616*(t+z)):=by
  rw[feC_of a t 0 0 (a+18446744073709551616*t) ha ha' h0 (by omega) (by omega) (by omega) (by omega) (by omega) (by omega),set_q1,feC_of a (t+z) 0 0 (a+18446744073709551616*(t+z)) ha ha' (by omega) (by omega) (by omega) (by omega) (by omega) (by omega) (by omega)]
  exact⟨rfl,rfl⟩



theorem byC_at (N:Int) (k:Nat) (hk:k<32):(byC N)[k]? =some (.int .u8 (byt N k)):=by
  unfold byC byK
  simp[hk]

end Go.Proofs.Ythldpfindbhkeaa
