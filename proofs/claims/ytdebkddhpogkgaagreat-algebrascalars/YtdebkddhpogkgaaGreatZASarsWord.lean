/-
  The words' arithmetic:math/bits.Add64,Sub64,Mul64,and limb.timesPlus,limb.plusWord,as contracts over Int.
-/
import Derived.Test.YtdebkddhpogkgaaGreatProg
import Derived.WalkKit
import Derived.WalkSpells
import Derived.KernelRfl
import Derived.Below
import Derived.Laws.Externs
import Derived.Laws.Bits64b
import Derived.Lib.Mul64
namespace Go.Proofs.YtdebkddhpogkgaaGreat
open Go.RowKit

def sub64E:Array Value→Sem Value:=fun args=>do
  let (x,y,b) ← Extern.MathBitsCarry.three "Sub64" args
  pure (Extern.MathBitsCarry.pair ((x+Extern.MathBitsCarry.m64 - y - b)%Extern.MathBitsCarry.m64) (if x<y+b then 1 else 0))

theorem run_sub64E {P:Program} (x y b:Nat) (hb:b≤1) (w:World):
    (sub64E #[.int .u64 x,.int .u64 y,.int .u64 b]).run P w=
      .ok (.tuple #[.int .u64 (((x+18446744073709551616 - y - b)%18446744073709551616:Nat):Int),.int .u64 ((if x<y+b then 1 else 0:Nat):Int)]) w:=by
  have:b=0∨b=1:=by omega
  rcases this with rfl|rfl<;>rfl

theorem add64 (x y c:Int) (hx:0≤x) (hy:0≤y) (hc0:0≤c) (hc:c≤1) (w:World):(callFunc 49 #[.int .u64 x,.int .u64 y,.int .u64 c]).run Tryz.prog w=
    .ok (.value (.tuple #[.int .u64 ((x+y+c)%18446744073709551616),.int .u64 ((x+y+c) / 18446744073709551616)])) w:=by
  rw[run_callFunc_extern Tryz.func49 (by kernel_rfl) (by kernel_rfl) (by kernel_rfl) (e:=add64Entry) (by kernel_rfl),run_add64 x y c hx hy hc0 hc]
  rfl
theorem add64_0 (x y:Int) (hx:0≤x) (hy:0≤y) (w:World):(callFunc 49 #[.int .u64 x,.int .u64 y,.int .u64 0]).run Tryz.prog w=
    .ok (.value (.tuple #[.int .u64 ((x+y)%18446744073709551616),.int .u64 ((x+y) / 18446744073709551616)])) w:=by
  simpa using add64 x y 0 hx hy (Int.le_refl 0) (by decide) w

def bor (x y:Int):Int:=if x<y then 1 else 0
theorem bor_bd (x y:Int):0≤bor x y∧bor x y≤1:=by unfold bor;split<;>decide

theorem sub64 (x y b:Int) (hx:0≤x) (hy:0≤y) (hy':y<18446744073709551616) (hb0:0≤b) (hb:b≤1) (w:World):(callFunc 50 #[.int .u64 x,.int .u64 y,.int .u64 b]).run Tryz.prog w=
    .ok (.value (.tuple #[.int .u64 ((x - y - b)%18446744073709551616),.int .u64 (bor x (y+b))])) w:=by
  obtain⟨x,rfl⟩:=Int.eq_ofNat_of_zero_le hx
  obtain⟨y,rfl⟩:=Int.eq_ofNat_of_zero_le hy
  obtain⟨b,rfl⟩:=Int.eq_ofNat_of_zero_le hb0
  have e1:(((x+18446744073709551616 - y - b)%18446744073709551616:Nat):Int)=((x:Int) - y - b)%18446744073709551616:=by omega
  have e2:((if x<y+b then 1 else 0:Nat):Int)=bor (x:Int) (y+b):=by unfold bor;split<;>split<;>omega
  rw[← e1,← e2,run_callFunc_extern Tryz.func50 (by kernel_rfl) (by kernel_rfl) (by kernel_rfl) (e:=sub64E) (by kernel_rfl),run_sub64E x y b (by omega)]
  rfl

namespace M64
theorem maskN (a:Nat) (ha:a<18446744073709551616):bits .and .u64 (a:Int) 4294967295=((a%4294967296:Nat):Int):=by
  have h:=bits_and_u64_nat a 4294967295 ha (by omega)
  have e:a &&& 4294967295=a%4294967296:=Nat.and_two_pow_sub_one_eq_mod a 32
  rw[e] at h
  exact h
theorem divN (a:Nat):(a:Int) / 4294967296=((a / 4294967296:Nat):Int):=by omega
theorem mulN (a b:Nat):(a:Int)*(b:Int)=((a*b:Nat):Int):=(Int.natCast_mul a b).symm
theorem addN (a b:Nat):(a:Int)+(b:Int)=((a+b:Nat):Int):=(Int.natCast_add a b).symm
theorem wrapN (a:Nat) (ha:a<18446744073709551616):IntKind.u64.wrap (a:Int)=(a:Int):=by rw[IntKind.wrap_u64];omega
theorem wrapM (a:Nat):IntKind.u64.wrap (a:Int)=((a%18446744073709551616:Nat):Int):=by rw[IntKind.wrap_u64];omega
end M64

set_option maxHeartbeats 1000000 in
theorem mul64N (x y:Nat) (hx:x<18446744073709551616) (hy:y<18446744073709551616) (w:World):
    Calls Tryz.prog 51 #[.int .u64 x,.int .u64 y] w fun e w'=>e= .returned (.tuple #[.int .u64 ((x*y / 18446744073709551616:Nat):Int),.int .u64 ((x*y%18446744073709551616:Nat):Int)])∧w'=w:=by
  obtain⟨bd,bt,bw,hhi⟩:=Lib.mul64_hi x y hx hy
  have ba:=Lib.half_mul_le (a:=x / 4294967296) (b:=y / 4294967296) (by omega) (by omega)
  have bb:=Lib.half_mul_le (a:=x / 4294967296) (b:=y%4294967296) (by omega) (by omega)
  have bc:=Lib.half_mul_le (a:=x%4294967296) (b:=y / 4294967296) (by omega) (by omega)
  have ba':x / 4294967296*(y / 4294967296)<18446744073709551616:=by omega
  have bb':x / 4294967296*(y%4294967296)<18446744073709551616:=by omega
  have bc':x%4294967296*(y / 4294967296)<18446744073709551616:=by omega
  have bh1:x / 4294967296*(y / 4294967296)+(x / 4294967296*(y%4294967296)+x%4294967296*(y%4294967296) / 4294967296) / 4294967296<18446744073709551616:=by omega
  have bh:x / 4294967296*(y / 4294967296)+(x / 4294967296*(y%4294967296)+x%4294967296*(y%4294967296) / 4294967296) / 4294967296+((x / 4294967296*(y%4294967296)+x%4294967296*(y%4294967296) / 4294967296)%4294967296+x%4294967296*(y / 4294967296)) / 4294967296<18446744073709551616:=by omega
  go_enter Tryz.func51,Tryz.ntmps51
  go_wp2
  simp only[M64.maskN x hx,M64.maskN y hy,M64.divN,M64.mulN,M64.addN,M64.wrapN _ bd,M64.wrapN _ bb',M64.wrapN _ bt,M64.maskN _ bt,M64.wrapN _ bc',M64.wrapN _ bw,M64.wrapN _ ba',M64.wrapN _ bh1,M64.wrapN _ bh,M64.wrapM (x*y)]
  rw[hhi]
  go_ret2
  exact⟨rfl,rfl⟩

theorem mul64 (x y:Int) (hx:0≤x) (hx':x<18446744073709551616) (hy:0≤y) (hy':y<18446744073709551616) (w:World):
    Calls Tryz.prog 51 #[.int .u64 x,.int .u64 y] w fun e w'=>∃ hi lo:Int,e= .returned (.tuple #[.int .u64 hi,.int .u64 lo])∧w'=w∧0≤hi∧hi<18446744073709551616∧0≤lo∧lo<18446744073709551616∧Hid (lo+18446744073709551616*hi=x*y):=by
  obtain⟨x,rfl⟩:=Int.eq_ofNat_of_zero_le hx
  obtain⟨y,rfl⟩:=Int.eq_ofNat_of_zero_le hy
  have hxn:x<18446744073709551616:=by omega
  have hyn:y<18446744073709551616:=by omega
  refine(mul64N x y hxn hyn w).mono ?_
  rintro e w' ⟨rfl,rfl⟩
  have hb:x*y≤18446744073709551615*18446744073709551615:=Nat.mul_le_mul (by omega) (by omega)
  refine⟨_,_,rfl,rfl,?_,?_,?_,?_,?_⟩
  all_goals(try unfold Hid)
  all_goals(try rw[← Int.natCast_mul])
  all_goals(generalize x*y=z at *; omega)
end Go.Proofs.YtdebkddhpogkgaaGreat
