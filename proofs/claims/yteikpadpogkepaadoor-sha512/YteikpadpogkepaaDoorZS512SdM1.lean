import Derived.Test.YteikpadpogkepaaDoorZS512SdA1
import Derived.Laws.Bits64b
import Derived.Laws.Closers25b
set_option linter.unusedSimpArgs false
set_option linter.unusedVariables false
/-! The document's SHA-2: what is reckoned. -/
namespace Go.Proofs.YteikpadpogkepaaDoor
open Go.RowKit Go.Ev
def sD5:S8:=⟨(bg5.getD 0 0) / 2 ^ (0),(bg5.getD 1 0) / 2 ^ (0),(bg5.getD 2 0) / 2 ^ (0),(bg5.getD 3 0) / 2 ^ (0),(bg5.getD 4 0) / 2 ^ (0),(bg5.getD 5 0) / 2 ^ (0),(bg5.getD 6 0) / 2 ^ (0),(bg5.getD 7 0) / 2 ^ (0)⟩
def xw5 (A:List Int) (p i:Nat):Int:=IntKind.u64.wrap ((IntKind.u64.wrap ((IntKind.u64.wrap ((IntKind.u64.wrap ((IntKind.u64.wrap ((IntKind.u64.wrap ((IntKind.u64.wrap ((IntKind.u64.wrap ((IntKind.u64.wrap ((IntKind.u64.wrap ((IntKind.u64.wrap ((IntKind.u64.wrap ((IntKind.u64.wrap ((IntKind.u64.wrap ((IntKind.u64.wrap (0+(IntKind.u64.wrap (A.getD (p+(i*8)) 0))))*256))+(IntKind.u64.wrap (A.getD (p+(i*8)+1) 0))))*256))+(IntKind.u64.wrap (A.getD (p+(i*8)+2) 0))))*256))+(IntKind.u64.wrap (A.getD (p+(i*8)+3) 0))))*256))+(IntKind.u64.wrap (A.getD (p+(i*8)+4) 0))))*256))+(IntKind.u64.wrap (A.getD (p+(i*8)+5) 0))))*256))+(IntKind.u64.wrap (A.getD (p+(i*8)+6) 0))))*256))+(IntKind.u64.wrap (A.getD (p+(i*8)+7) 0)))
def xm5 (Y:List Int) (i:Nat):Int:=(cu5 (IntKind.u64.wrap ((IntKind.u64.wrap ((IntKind.u64.wrap ((dmx5 3 (Y.getD (i - 2) 0))+(Y.getD (i - 7) 0)))+(dmx5 2 (Y.getD (i - 15) 0))))+(Y.getD (i - 16) 0))))
def spD5 (A:List Int) (p:Nat):Nat→List Int
  |0=> []
  |i+1=>spD5 A p i ++ [if i<16 then xw5 A p i else xm5 (spD5 A p i) i]
def rdD5 (Y:List Int) (r:Nat) (z:S8):S8:=⟨(cu5 (IntKind.u64.wrap ((IntKind.u64.wrap ((IntKind.u64.wrap ((IntKind.u64.wrap ((IntKind.u64.wrap (z.h+(dmx5 1 z.e)))+(cu5 (bits .xor .u64 (bits .and .u64 z.e z.f) (bits .and .u64 (bits .xor .u64 18446744073709551615 z.e) z.g)))))+((kL5.getD (Int.toNat ((r:Nat):Int)) 0) / 2 ^ (0))))+(Y.getD r 0)))+(IntKind.u64.wrap ((dmx5 0 z.a)+(bits .xor .u64 (bits .xor .u64 (bits .and .u64 z.a z.b) (bits .and .u64 z.a z.c)) (bits .and .u64 z.b z.c))))))),z.a,z.b,z.c,(cu5 (IntKind.u64.wrap (z.d+(IntKind.u64.wrap ((IntKind.u64.wrap ((IntKind.u64.wrap ((IntKind.u64.wrap (z.h+(dmx5 1 z.e)))+(cu5 (bits .xor .u64 (bits .and .u64 z.e z.f) (bits .and .u64 (bits .xor .u64 18446744073709551615 z.e) z.g)))))+((kL5.getD (Int.toNat ((r:Nat):Int)) 0) / 2 ^ (0))))+(Y.getD r 0)))))),z.e,z.f,z.g⟩
def itD5 (Y:List Int) (y:S8):Nat→S8
  |0=>y
  |r+1=>rdD5 Y r (itD5 Y y r)
def adD5 (y z:S8):S8:=⟨(cu5 (IntKind.u64.wrap (y.a+z.a))),(cu5 (IntKind.u64.wrap (y.b+z.b))),(cu5 (IntKind.u64.wrap (y.c+z.c))),(cu5 (IntKind.u64.wrap (y.d+z.d))),(cu5 (IntKind.u64.wrap (y.e+z.e))),(cu5 (IntKind.u64.wrap (y.f+z.f))),(cu5 (IntKind.u64.wrap (y.g+z.g))),(cu5 (IntKind.u64.wrap (y.h+z.h)))⟩
def hsD5 (A:List Int):Nat→S8
  |0=>sD5
  |k+1=>adD5 (hsD5 A k) (itD5 (spD5 A (128*k) 80) (hsD5 A k) 80)
def oL5 (L:List Int) (q:Nat):List Int:=(List.range q).map fun x=>IntKind.u8.wrap (L.getD (x / 8) 0 / 2 ^ min (8*(7 - x%8)) 64)
theorem oL5_len (L:List Int) (q:Nat):(oL5 L q).length=q:=by simp[oL5]
theorem oL5_step (L:List Int) {i r:Nat} (hr:r<8):oL5 L (8*i+r+1)=oL5 L (8*i+r) ++ [IntKind.u8.wrap (L.getD i 0 / 2 ^ min (8*(7 - r)) 64)]:=by
  unfold oL5
  rw[List.range_succ,List.map_append,show(8*i+r)=r+8*i from by omega]
  simp only[List.map_cons,List.map_nil]
  rw[Nat.add_mul_div_left _ _ (by decide),Nat.add_mul_mod_self_left,Nat.mod_eq_of_lt hr,Nat.div_eq_of_lt hr,Nat.zero_add]
end Go.Proofs.YteikpadpogkepaaDoor

set_option linter.unusedSimpArgs false
set_option linter.unusedVariables false
/-! The document's words are the program's. -/
namespace Go.Proofs.YteikpadpogkepaaDoor
open Go.RowKit Go.Ev
theorem ofI32 (a:Nat) (h:a<4294967296):(BitVec.ofInt 32 (a:Int)).toNat=a:=by
  rw[BitVec.ofInt_natCast,BitVec.toNat_ofNat];exact Nat.mod_eq_of_lt (by omega)
theorem o32 (a b:Nat) (ha:a<4294967296) (hb:b<4294967296):bits .or .u32 (a:Int) (b:Int)=((a ||| b:Nat):Int):=by
  have hx:a ||| b<2 ^ 32:=Nat.or_lt_two_pow (by omega) (by omega)
  show IntKind.u32.wrap ((BitVec.ofInt 32 (a:Int) ||| BitVec.ofInt 32 (b:Int)).toNat:Int)=_
  rw[BitVec.toNat_or,ofI32 a ha,ofI32 b hb,IntKind.wrap_u32];omega
theorem x64 (a b:Nat) (ha:a<18446744073709551616) (hb:b<18446744073709551616):bits .xor .u64 (a:Int) (b:Int)=((a ^^^ b:Nat):Int):=bits_xor_u64_nat a b ha hb
theorem o64 (a b:Nat) (ha:a<18446744073709551616) (hb:b<18446744073709551616):bits .or .u64 (a:Int) (b:Int)=((a ||| b:Nat):Int):=bits_or_u64_nat a b ha hb
def rot (b n x:Nat):Nat:=x / 2 ^ n+x%2 ^ n*2 ^ (b - n)
theorem rot_lt {b n x:Nat} (hn:n≤b) (hx:x<2 ^ b):rot b n x<2 ^ b:=by
  unfold rot
  have e:2 ^ b=2 ^ n*2 ^ (b - n):=by rw[← Nat.pow_add];congr 1;omega
  have h1:x / 2 ^ n<2 ^ (b - n):=by
    rw[Nat.div_lt_iff_lt_mul (Nat.two_pow_pos n),Nat.mul_comm,← e];exact hx
  have h2:x%2 ^ n<2 ^ n:=Nat.mod_lt _ (Nat.two_pow_pos n)
  have h3:(x%2 ^ n+1)*2 ^ (b - n)≤2 ^ n*2 ^ (b - n):=Nat.mul_le_mul_right _ h2
  rw[Nat.add_mul,Nat.one_mul] at h3
  omega
theorem rot_or {b n x:Nat} (hn:n≤b) (hx:x<2 ^ b):(x*2 ^ (b - n)%2 ^ b) ||| (x / 2 ^ n)=rot b n x:=by
  have e:2 ^ b=2 ^ n*2 ^ (b - n):=by rw[← Nat.pow_add];congr 1;omega
  have h1:x / 2 ^ n<2 ^ (b - n):=by
    rw[Nat.div_lt_iff_lt_mul (Nat.two_pow_pos n),Nat.mul_comm,← e];exact hx
  rw[e,Nat.mul_mod_mul_right,Nat.mul_comm (x%2 ^ n),← Nat.two_pow_add_eq_or_of_lt h1]
  unfold rot
  rw[Nat.mul_comm (x%2 ^ n)];omega
theorem cut5 (x:Int) (h0:0≤x):cu5 x=x%18446744073709551616:=by
  unfold cu5
  rw[IntKind.wrap_u64]
  have e:(2:Int) ^ (0)=1:=by decide
  rw[e];omega
theorem rlq5_1 (x:Nat) (hx:x<18446744073709551616):rl64 (x:Int) (-1)=((rot 64 1 x:Nat):Int):=by
  have e1:min (Int.toNat (bits .and .u64 (IntKind.u64.wrap (-1)) 63)) 64=63:=by kernel_rfl
  have e2:min (Int.toNat (IntKind.u64.wrap (64 - bits .and .u64 (IntKind.u64.wrap (-1)) 63))) 64=1:=by kernel_rfl
  unfold rl64
  rw[e1,e2]
  have f1:IntKind.u64.wrap ((x:Int)*2 ^ 63)=((x*2 ^ (64 - 1)%2 ^ 64:Nat):Int):=by
    rw[IntKind.wrap_u64];simp
  have f2:(x:Int) / 2 ^ 1=((x / 2 ^ 1:Nat):Int):=by simp
  rw[f1,f2,o64 _ _ (by have:=Nat.mod_lt (x*2 ^ (64 - 1)) (Nat.two_pow_pos 64);omega) (by have:=Nat.div_le_self x (2 ^ 1);omega),rot_or (by decide) (by omega)]
theorem rgq5_1 (x:Nat) (hx:x<18446744073709551616):rg5 (x:Int) 1=((rot 64 1 x:Nat):Int):=by
  have e1:min (Int.toNat (1:Int)) 64=1:=by decide
  have e2:min (Int.toNat (IntKind.i64.wrap (64 - (1:Int)))) 64=63:=by kernel_rfl
  have hr:=rot_lt (b:=64) (n:=1) (x:=x) (by decide) (by omega)
  unfold rg5
  rw[e1,e2,cut5 _ (by rw[IntKind.wrap_u64];omega)]
  have p1:(2:Int) ^ 1=2:=by decide
  have p2:(2:Int) ^ 63=9223372036854775808:=by decide
  rw[p1,p2,IntKind.wrap_u64,IntKind.wrap_u64]
  unfold rot at hr ⊢
  simp only[show(2:Nat) ^ 1=2 from by decide,show(2:Nat) ^ (64 - 1)=9223372036854775808 from by decide,show(2:Nat) ^ 64=18446744073709551616 from by decide] at hr ⊢
  omega
theorem rlq5_8 (x:Nat) (hx:x<18446744073709551616):rl64 (x:Int) (-8)=((rot 64 8 x:Nat):Int):=by
  have e1:min (Int.toNat (bits .and .u64 (IntKind.u64.wrap (-8)) 63)) 64=56:=by kernel_rfl
  have e2:min (Int.toNat (IntKind.u64.wrap (64 - bits .and .u64 (IntKind.u64.wrap (-8)) 63))) 64=8:=by kernel_rfl
  unfold rl64
  rw[e1,e2]
  have f1:IntKind.u64.wrap ((x:Int)*2 ^ 56)=((x*2 ^ (64 - 8)%2 ^ 64:Nat):Int):=by
    rw[IntKind.wrap_u64];simp
  have f2:(x:Int) / 2 ^ 8=((x / 2 ^ 8:Nat):Int):=by simp
  rw[f1,f2,o64 _ _ (by have:=Nat.mod_lt (x*2 ^ (64 - 8)) (Nat.two_pow_pos 64);omega) (by have:=Nat.div_le_self x (2 ^ 8);omega),rot_or (by decide) (by omega)]
theorem rgq5_8 (x:Nat) (hx:x<18446744073709551616):rg5 (x:Int) 8=((rot 64 8 x:Nat):Int):=by
  have e1:min (Int.toNat (8:Int)) 64=8:=by decide
  have e2:min (Int.toNat (IntKind.i64.wrap (64 - (8:Int)))) 64=56:=by kernel_rfl
  have hr:=rot_lt (b:=64) (n:=8) (x:=x) (by decide) (by omega)
  unfold rg5
  rw[e1,e2,cut5 _ (by rw[IntKind.wrap_u64];omega)]
  have p1:(2:Int) ^ 8=256:=by decide
  have p2:(2:Int) ^ 56=72057594037927936:=by decide
  rw[p1,p2,IntKind.wrap_u64,IntKind.wrap_u64]
  unfold rot at hr ⊢
  simp only[show(2:Nat) ^ 8=256 from by decide,show(2:Nat) ^ (64 - 8)=72057594037927936 from by decide,show(2:Nat) ^ 64=18446744073709551616 from by decide] at hr ⊢
  omega
theorem rlq5_14 (x:Nat) (hx:x<18446744073709551616):rl64 (x:Int) (-14)=((rot 64 14 x:Nat):Int):=by
  have e1:min (Int.toNat (bits .and .u64 (IntKind.u64.wrap (-14)) 63)) 64=50:=by kernel_rfl
  have e2:min (Int.toNat (IntKind.u64.wrap (64 - bits .and .u64 (IntKind.u64.wrap (-14)) 63))) 64=14:=by kernel_rfl
  unfold rl64
  rw[e1,e2]
  have f1:IntKind.u64.wrap ((x:Int)*2 ^ 50)=((x*2 ^ (64 - 14)%2 ^ 64:Nat):Int):=by
    rw[IntKind.wrap_u64];simp
  have f2:(x:Int) / 2 ^ 14=((x / 2 ^ 14:Nat):Int):=by simp
  rw[f1,f2,o64 _ _ (by have:=Nat.mod_lt (x*2 ^ (64 - 14)) (Nat.two_pow_pos 64);omega) (by have:=Nat.div_le_self x (2 ^ 14);omega),rot_or (by decide) (by omega)]
theorem rgq5_14 (x:Nat) (hx:x<18446744073709551616):rg5 (x:Int) 14=((rot 64 14 x:Nat):Int):=by
  have e1:min (Int.toNat (14:Int)) 64=14:=by decide
  have e2:min (Int.toNat (IntKind.i64.wrap (64 - (14:Int)))) 64=50:=by kernel_rfl
  have hr:=rot_lt (b:=64) (n:=14) (x:=x) (by decide) (by omega)
  unfold rg5
  rw[e1,e2,cut5 _ (by rw[IntKind.wrap_u64];omega)]
  have p1:(2:Int) ^ 14=16384:=by decide
  have p2:(2:Int) ^ 50=1125899906842624:=by decide
  rw[p1,p2,IntKind.wrap_u64,IntKind.wrap_u64]
  unfold rot at hr ⊢
  simp only[show(2:Nat) ^ 14=16384 from by decide,show(2:Nat) ^ (64 - 14)=1125899906842624 from by decide,show(2:Nat) ^ 64=18446744073709551616 from by decide] at hr ⊢
  omega
theorem rlq5_18 (x:Nat) (hx:x<18446744073709551616):rl64 (x:Int) (-18)=((rot 64 18 x:Nat):Int):=by
  have e1:min (Int.toNat (bits .and .u64 (IntKind.u64.wrap (-18)) 63)) 64=46:=by kernel_rfl
  have e2:min (Int.toNat (IntKind.u64.wrap (64 - bits .and .u64 (IntKind.u64.wrap (-18)) 63))) 64=18:=by kernel_rfl
  unfold rl64
  rw[e1,e2]
  have f1:IntKind.u64.wrap ((x:Int)*2 ^ 46)=((x*2 ^ (64 - 18)%2 ^ 64:Nat):Int):=by
    rw[IntKind.wrap_u64];simp
  have f2:(x:Int) / 2 ^ 18=((x / 2 ^ 18:Nat):Int):=by simp
  rw[f1,f2,o64 _ _ (by have:=Nat.mod_lt (x*2 ^ (64 - 18)) (Nat.two_pow_pos 64);omega) (by have:=Nat.div_le_self x (2 ^ 18);omega),rot_or (by decide) (by omega)]
theorem rgq5_18 (x:Nat) (hx:x<18446744073709551616):rg5 (x:Int) 18=((rot 64 18 x:Nat):Int):=by
  have e1:min (Int.toNat (18:Int)) 64=18:=by decide
  have e2:min (Int.toNat (IntKind.i64.wrap (64 - (18:Int)))) 64=46:=by kernel_rfl
  have hr:=rot_lt (b:=64) (n:=18) (x:=x) (by decide) (by omega)
  unfold rg5
  rw[e1,e2,cut5 _ (by rw[IntKind.wrap_u64];omega)]
  have p1:(2:Int) ^ 18=262144:=by decide
  have p2:(2:Int) ^ 46=70368744177664:=by decide
  rw[p1,p2,IntKind.wrap_u64,IntKind.wrap_u64]
  unfold rot at hr ⊢
  simp only[show(2:Nat) ^ 18=262144 from by decide,show(2:Nat) ^ (64 - 18)=70368744177664 from by decide,show(2:Nat) ^ 64=18446744073709551616 from by decide] at hr ⊢
  omega
theorem rlq5_19 (x:Nat) (hx:x<18446744073709551616):rl64 (x:Int) (-19)=((rot 64 19 x:Nat):Int):=by
  have e1:min (Int.toNat (bits .and .u64 (IntKind.u64.wrap (-19)) 63)) 64=45:=by kernel_rfl
  have e2:min (Int.toNat (IntKind.u64.wrap (64 - bits .and .u64 (IntKind.u64.wrap (-19)) 63))) 64=19:=by kernel_rfl
  unfold rl64
  rw[e1,e2]
  have f1:IntKind.u64.wrap ((x:Int)*2 ^ 45)=((x*2 ^ (64 - 19)%2 ^ 64:Nat):Int):=by
    rw[IntKind.wrap_u64];simp
  have f2:(x:Int) / 2 ^ 19=((x / 2 ^ 19:Nat):Int):=by simp
  rw[f1,f2,o64 _ _ (by have:=Nat.mod_lt (x*2 ^ (64 - 19)) (Nat.two_pow_pos 64);omega) (by have:=Nat.div_le_self x (2 ^ 19);omega),rot_or (by decide) (by omega)]
theorem rgq5_19 (x:Nat) (hx:x<18446744073709551616):rg5 (x:Int) 19=((rot 64 19 x:Nat):Int):=by
  have e1:min (Int.toNat (19:Int)) 64=19:=by decide
  have e2:min (Int.toNat (IntKind.i64.wrap (64 - (19:Int)))) 64=45:=by kernel_rfl
  have hr:=rot_lt (b:=64) (n:=19) (x:=x) (by decide) (by omega)
  unfold rg5
  rw[e1,e2,cut5 _ (by rw[IntKind.wrap_u64];omega)]
  have p1:(2:Int) ^ 19=524288:=by decide
  have p2:(2:Int) ^ 45=35184372088832:=by decide
  rw[p1,p2,IntKind.wrap_u64,IntKind.wrap_u64]
  unfold rot at hr ⊢
  simp only[show(2:Nat) ^ 19=524288 from by decide,show(2:Nat) ^ (64 - 19)=35184372088832 from by decide,show(2:Nat) ^ 64=18446744073709551616 from by decide] at hr ⊢
  omega
theorem rlq5_28 (x:Nat) (hx:x<18446744073709551616):rl64 (x:Int) (-28)=((rot 64 28 x:Nat):Int):=by
  have e1:min (Int.toNat (bits .and .u64 (IntKind.u64.wrap (-28)) 63)) 64=36:=by kernel_rfl
  have e2:min (Int.toNat (IntKind.u64.wrap (64 - bits .and .u64 (IntKind.u64.wrap (-28)) 63))) 64=28:=by kernel_rfl
  unfold rl64
  rw[e1,e2]
  have f1:IntKind.u64.wrap ((x:Int)*2 ^ 36)=((x*2 ^ (64 - 28)%2 ^ 64:Nat):Int):=by
    rw[IntKind.wrap_u64];simp
  have f2:(x:Int) / 2 ^ 28=((x / 2 ^ 28:Nat):Int):=by simp
  rw[f1,f2,o64 _ _ (by have:=Nat.mod_lt (x*2 ^ (64 - 28)) (Nat.two_pow_pos 64);omega) (by have:=Nat.div_le_self x (2 ^ 28);omega),rot_or (by decide) (by omega)]
theorem rgq5_28 (x:Nat) (hx:x<18446744073709551616):rg5 (x:Int) 28=((rot 64 28 x:Nat):Int):=by
  have e1:min (Int.toNat (28:Int)) 64=28:=by decide
  have e2:min (Int.toNat (IntKind.i64.wrap (64 - (28:Int)))) 64=36:=by kernel_rfl
  have hr:=rot_lt (b:=64) (n:=28) (x:=x) (by decide) (by omega)
  unfold rg5
  rw[e1,e2,cut5 _ (by rw[IntKind.wrap_u64];omega)]
  have p1:(2:Int) ^ 28=268435456:=by decide
  have p2:(2:Int) ^ 36=68719476736:=by decide
  rw[p1,p2,IntKind.wrap_u64,IntKind.wrap_u64]
  unfold rot at hr ⊢
  simp only[show(2:Nat) ^ 28=268435456 from by decide,show(2:Nat) ^ (64 - 28)=68719476736 from by decide,show(2:Nat) ^ 64=18446744073709551616 from by decide] at hr ⊢
  omega
theorem rlq5_34 (x:Nat) (hx:x<18446744073709551616):rl64 (x:Int) (-34)=((rot 64 34 x:Nat):Int):=by
  have e1:min (Int.toNat (bits .and .u64 (IntKind.u64.wrap (-34)) 63)) 64=30:=by kernel_rfl
  have e2:min (Int.toNat (IntKind.u64.wrap (64 - bits .and .u64 (IntKind.u64.wrap (-34)) 63))) 64=34:=by kernel_rfl
  unfold rl64
  rw[e1,e2]
  have f1:IntKind.u64.wrap ((x:Int)*2 ^ 30)=((x*2 ^ (64 - 34)%2 ^ 64:Nat):Int):=by
    rw[IntKind.wrap_u64];simp
  have f2:(x:Int) / 2 ^ 34=((x / 2 ^ 34:Nat):Int):=by simp
  rw[f1,f2,o64 _ _ (by have:=Nat.mod_lt (x*2 ^ (64 - 34)) (Nat.two_pow_pos 64);omega) (by have:=Nat.div_le_self x (2 ^ 34);omega),rot_or (by decide) (by omega)]
theorem rgq5_34 (x:Nat) (hx:x<18446744073709551616):rg5 (x:Int) 34=((rot 64 34 x:Nat):Int):=by
  have e1:min (Int.toNat (34:Int)) 64=34:=by decide
  have e2:min (Int.toNat (IntKind.i64.wrap (64 - (34:Int)))) 64=30:=by kernel_rfl
  have hr:=rot_lt (b:=64) (n:=34) (x:=x) (by decide) (by omega)
  unfold rg5
  rw[e1,e2,cut5 _ (by rw[IntKind.wrap_u64];omega)]
  have p1:(2:Int) ^ 34=17179869184:=by decide
  have p2:(2:Int) ^ 30=1073741824:=by decide
  rw[p1,p2,IntKind.wrap_u64,IntKind.wrap_u64]
  unfold rot at hr ⊢
  simp only[show(2:Nat) ^ 34=17179869184 from by decide,show(2:Nat) ^ (64 - 34)=1073741824 from by decide,show(2:Nat) ^ 64=18446744073709551616 from by decide] at hr ⊢
  omega
theorem rlq5_39 (x:Nat) (hx:x<18446744073709551616):rl64 (x:Int) (-39)=((rot 64 39 x:Nat):Int):=by
  have e1:min (Int.toNat (bits .and .u64 (IntKind.u64.wrap (-39)) 63)) 64=25:=by kernel_rfl
  have e2:min (Int.toNat (IntKind.u64.wrap (64 - bits .and .u64 (IntKind.u64.wrap (-39)) 63))) 64=39:=by kernel_rfl
  unfold rl64
  rw[e1,e2]
  have f1:IntKind.u64.wrap ((x:Int)*2 ^ 25)=((x*2 ^ (64 - 39)%2 ^ 64:Nat):Int):=by
    rw[IntKind.wrap_u64];simp
  have f2:(x:Int) / 2 ^ 39=((x / 2 ^ 39:Nat):Int):=by simp
  rw[f1,f2,o64 _ _ (by have:=Nat.mod_lt (x*2 ^ (64 - 39)) (Nat.two_pow_pos 64);omega) (by have:=Nat.div_le_self x (2 ^ 39);omega),rot_or (by decide) (by omega)]
theorem rgq5_39 (x:Nat) (hx:x<18446744073709551616):rg5 (x:Int) 39=((rot 64 39 x:Nat):Int):=by
  have e1:min (Int.toNat (39:Int)) 64=39:=by decide
  have e2:min (Int.toNat (IntKind.i64.wrap (64 - (39:Int)))) 64=25:=by kernel_rfl
  have hr:=rot_lt (b:=64) (n:=39) (x:=x) (by decide) (by omega)
  unfold rg5
  rw[e1,e2,cut5 _ (by rw[IntKind.wrap_u64];omega)]
  have p1:(2:Int) ^ 39=549755813888:=by decide
  have p2:(2:Int) ^ 25=33554432:=by decide
  rw[p1,p2,IntKind.wrap_u64,IntKind.wrap_u64]
  unfold rot at hr ⊢
  simp only[show(2:Nat) ^ 39=549755813888 from by decide,show(2:Nat) ^ (64 - 39)=33554432 from by decide,show(2:Nat) ^ 64=18446744073709551616 from by decide] at hr ⊢
  omega
theorem rlq5_41 (x:Nat) (hx:x<18446744073709551616):rl64 (x:Int) (-41)=((rot 64 41 x:Nat):Int):=by
  have e1:min (Int.toNat (bits .and .u64 (IntKind.u64.wrap (-41)) 63)) 64=23:=by kernel_rfl
  have e2:min (Int.toNat (IntKind.u64.wrap (64 - bits .and .u64 (IntKind.u64.wrap (-41)) 63))) 64=41:=by kernel_rfl
  unfold rl64
  rw[e1,e2]
  have f1:IntKind.u64.wrap ((x:Int)*2 ^ 23)=((x*2 ^ (64 - 41)%2 ^ 64:Nat):Int):=by
    rw[IntKind.wrap_u64];simp
  have f2:(x:Int) / 2 ^ 41=((x / 2 ^ 41:Nat):Int):=by simp
  rw[f1,f2,o64 _ _ (by have:=Nat.mod_lt (x*2 ^ (64 - 41)) (Nat.two_pow_pos 64);omega) (by have:=Nat.div_le_self x (2 ^ 41);omega),rot_or (by decide) (by omega)]
theorem rgq5_41 (x:Nat) (hx:x<18446744073709551616):rg5 (x:Int) 41=((rot 64 41 x:Nat):Int):=by
  have e1:min (Int.toNat (41:Int)) 64=41:=by decide
  have e2:min (Int.toNat (IntKind.i64.wrap (64 - (41:Int)))) 64=23:=by kernel_rfl
  have hr:=rot_lt (b:=64) (n:=41) (x:=x) (by decide) (by omega)
  unfold rg5
  rw[e1,e2,cut5 _ (by rw[IntKind.wrap_u64];omega)]
  have p1:(2:Int) ^ 41=2199023255552:=by decide
  have p2:(2:Int) ^ 23=8388608:=by decide
  rw[p1,p2,IntKind.wrap_u64,IntKind.wrap_u64]
  unfold rot at hr ⊢
  simp only[show(2:Nat) ^ 41=2199023255552 from by decide,show(2:Nat) ^ (64 - 41)=8388608 from by decide,show(2:Nat) ^ 64=18446744073709551616 from by decide] at hr ⊢
  omega
theorem rlq5_61 (x:Nat) (hx:x<18446744073709551616):rl64 (x:Int) (-61)=((rot 64 61 x:Nat):Int):=by
  have e1:min (Int.toNat (bits .and .u64 (IntKind.u64.wrap (-61)) 63)) 64=3:=by kernel_rfl
  have e2:min (Int.toNat (IntKind.u64.wrap (64 - bits .and .u64 (IntKind.u64.wrap (-61)) 63))) 64=61:=by kernel_rfl
  unfold rl64
  rw[e1,e2]
  have f1:IntKind.u64.wrap ((x:Int)*2 ^ 3)=((x*2 ^ (64 - 61)%2 ^ 64:Nat):Int):=by
    rw[IntKind.wrap_u64];simp
  have f2:(x:Int) / 2 ^ 61=((x / 2 ^ 61:Nat):Int):=by simp
  rw[f1,f2,o64 _ _ (by have:=Nat.mod_lt (x*2 ^ (64 - 61)) (Nat.two_pow_pos 64);omega) (by have:=Nat.div_le_self x (2 ^ 61);omega),rot_or (by decide) (by omega)]
theorem rgq5_61 (x:Nat) (hx:x<18446744073709551616):rg5 (x:Int) 61=((rot 64 61 x:Nat):Int):=by
  have e1:min (Int.toNat (61:Int)) 64=61:=by decide
  have e2:min (Int.toNat (IntKind.i64.wrap (64 - (61:Int)))) 64=3:=by kernel_rfl
  have hr:=rot_lt (b:=64) (n:=61) (x:=x) (by decide) (by omega)
  unfold rg5
  rw[e1,e2,cut5 _ (by rw[IntKind.wrap_u64];omega)]
  have p1:(2:Int) ^ 61=2305843009213693952:=by decide
  have p2:(2:Int) ^ 3=8:=by decide
  rw[p1,p2,IntKind.wrap_u64,IntKind.wrap_u64]
  unfold rot at hr ⊢
  simp only[show(2:Nat) ^ 61=2305843009213693952 from by decide,show(2:Nat) ^ (64 - 61)=8 from by decide,show(2:Nat) ^ 64=18446744073709551616 from by decide] at hr ⊢
  omega
end Go.Proofs.YteikpadpogkepaaDoor

set_option linter.unusedSimpArgs false
set_option linter.unusedVariables false
/-! The document's rounds are the program's. -/
namespace Go.Proofs.YteikpadpogkepaaDoor
open Go.RowKit Go.Ev
abbrev W5 (x:Int):Prop:=0≤x∧x<18446744073709551616
theorem W5.nat {x:Int} (h:W5 x):∃ m:Nat,m<18446744073709551616∧x=(m:Int):=⟨x.toNat,by omega,by omega⟩
theorem mixq5_0 (x:Int) (h:W5 x):dmx5 0 x=gz5 x∧W5 (gz5 x):=by
  obtain⟨x,hx,rfl⟩:=h.nat
  have h0:=rot_lt (b:=64) (n:=28) (x:=x) (by decide) (by omega)
  have h1:=rot_lt (b:=64) (n:=34) (x:=x) (by decide) (by omega)
  have h2:=rot_lt (b:=64) (n:=39) (x:=x) (by decide) (by omega)
  have hx1:=Nat.xor_lt_two_pow (n:=64) (x:=rot 64 28 x) (y:=rot 64 34 x) (by omega) (by omega)
  have hx2:=Nat.xor_lt_two_pow (n:=64) (x:=rot 64 28 x ^^^ rot 64 34 x) (y:=rot 64 39 x) hx1 (by omega)
  have e1:dmx5 0 (x:Int)=((rot 64 28 x ^^^ rot 64 34 x ^^^ rot 64 39 x:Nat):Int):=by
    show bits .xor .u64 (bits .xor .u64 (rg5 (x:Int) 28) (rg5 (x:Int) 34)) (rg5 (x:Int) 39)=_
    rw[rgq5_28 x hx,rgq5_34 x hx,rgq5_39 x hx,x64 _ _ (by omega) (by omega),x64 _ _ (by omega) (by omega)]
  have e2:gz5 (x:Int)=((rot 64 28 x ^^^ rot 64 34 x ^^^ rot 64 39 x:Nat):Int):=by
    unfold gz5
    rw[rlq5_28 x hx,rlq5_34 x hx,rlq5_39 x hx,x64 _ _ (by omega) (by omega),x64 _ _ (by omega) (by omega)]
  rw[e1,e2]
  exact⟨rfl,by omega,by omega⟩
theorem mixq5_1 (x:Int) (h:W5 x):dmx5 1 x=go5 x∧W5 (go5 x):=by
  obtain⟨x,hx,rfl⟩:=h.nat
  have h0:=rot_lt (b:=64) (n:=14) (x:=x) (by decide) (by omega)
  have h1:=rot_lt (b:=64) (n:=18) (x:=x) (by decide) (by omega)
  have h2:=rot_lt (b:=64) (n:=41) (x:=x) (by decide) (by omega)
  have hx1:=Nat.xor_lt_two_pow (n:=64) (x:=rot 64 14 x) (y:=rot 64 18 x) (by omega) (by omega)
  have hx2:=Nat.xor_lt_two_pow (n:=64) (x:=rot 64 14 x ^^^ rot 64 18 x) (y:=rot 64 41 x) hx1 (by omega)
  have e1:dmx5 1 (x:Int)=((rot 64 14 x ^^^ rot 64 18 x ^^^ rot 64 41 x:Nat):Int):=by
    show bits .xor .u64 (bits .xor .u64 (rg5 (x:Int) 14) (rg5 (x:Int) 18)) (rg5 (x:Int) 41)=_
    rw[rgq5_14 x hx,rgq5_18 x hx,rgq5_41 x hx,x64 _ _ (by omega) (by omega),x64 _ _ (by omega) (by omega)]
  have e2:go5 (x:Int)=((rot 64 14 x ^^^ rot 64 18 x ^^^ rot 64 41 x:Nat):Int):=by
    unfold go5
    rw[rlq5_14 x hx,rlq5_18 x hx,rlq5_41 x hx,x64 _ _ (by omega) (by omega),x64 _ _ (by omega) (by omega)]
  rw[e1,e2]
  exact⟨rfl,by omega,by omega⟩
theorem mixq5_2 (x:Int) (h:W5 x):dmx5 2 x=sz5 x∧W5 (sz5 x):=by
  obtain⟨x,hx,rfl⟩:=h.nat
  have h0:=rot_lt (b:=64) (n:=1) (x:=x) (by decide) (by omega)
  have h1:=rot_lt (b:=64) (n:=8) (x:=x) (by decide) (by omega)
  have h2:=Nat.div_le_self x (2 ^ 7)
  have hx1:=Nat.xor_lt_two_pow (n:=64) (x:=rot 64 1 x) (y:=rot 64 8 x) (by omega) (by omega)
  have hx2:=Nat.xor_lt_two_pow (n:=64) (x:=rot 64 1 x ^^^ rot 64 8 x) (y:=x / 2 ^ 7) hx1 (by omega)
  have hd:(x:Int) / 2 ^ (7)=((x / 2 ^ 7:Nat):Int):=by simp
  have e1:dmx5 2 (x:Int)=((rot 64 1 x ^^^ rot 64 8 x ^^^ x / 2 ^ 7:Nat):Int):=by
    show bits .xor .u64 (bits .xor .u64 (rg5 (x:Int) 1) (rg5 (x:Int) 8)) ((x:Int) / 2 ^ (7))=_
    rw[rgq5_1 x hx,rgq5_8 x hx,hd,x64 _ _ (by omega) (by omega),x64 _ _ (by omega) (by omega)]
  have e2:sz5 (x:Int)=((rot 64 1 x ^^^ rot 64 8 x ^^^ x / 2 ^ 7:Nat):Int):=by
    unfold sz5
    rw[rlq5_1 x hx,rlq5_8 x hx,hd,x64 _ _ (by omega) (by omega),x64 _ _ (by omega) (by omega)]
  rw[e1,e2]
  exact⟨rfl,by omega,by omega⟩
theorem mixq5_3 (x:Int) (h:W5 x):dmx5 3 x=so5 x∧W5 (so5 x):=by
  obtain⟨x,hx,rfl⟩:=h.nat
  have h0:=rot_lt (b:=64) (n:=19) (x:=x) (by decide) (by omega)
  have h1:=rot_lt (b:=64) (n:=61) (x:=x) (by decide) (by omega)
  have h2:=Nat.div_le_self x (2 ^ 6)
  have hx1:=Nat.xor_lt_two_pow (n:=64) (x:=rot 64 19 x) (y:=rot 64 61 x) (by omega) (by omega)
  have hx2:=Nat.xor_lt_two_pow (n:=64) (x:=rot 64 19 x ^^^ rot 64 61 x) (y:=x / 2 ^ 6) hx1 (by omega)
  have hd:(x:Int) / 2 ^ (6)=((x / 2 ^ 6:Nat):Int):=by simp
  have e1:dmx5 3 (x:Int)=((rot 64 19 x ^^^ rot 64 61 x ^^^ x / 2 ^ 6:Nat):Int):=by
    show bits .xor .u64 (bits .xor .u64 (rg5 (x:Int) 19) (rg5 (x:Int) 61)) ((x:Int) / 2 ^ (6))=_
    rw[rgq5_19 x hx,rgq5_61 x hx,hd,x64 _ _ (by omega) (by omega),x64 _ _ (by omega) (by omega)]
  have e2:so5 (x:Int)=((rot 64 19 x ^^^ rot 64 61 x ^^^ x / 2 ^ 6:Nat):Int):=by
    unfold so5
    rw[rlq5_19 x hx,rlq5_61 x hx,hd,x64 _ _ (by omega) (by omega),x64 _ _ (by omega) (by omega)]
  rw[e1,e2]
  exact⟨rfl,by omega,by omega⟩
theorem chq5 (e f g:Int) (he:W5 e) (hf:W5 f) (hg:W5 g):cu5 (bits .xor .u64 (bits .and .u64 e f) (bits .and .u64 (bits .xor .u64 18446744073709551615 e) g))=bits .xor .u64 (bits .and .u64 e f) (bits .and .u64 (bits .xor .u64 18446744073709551615 e) g)∧W5 (bits .xor .u64 (bits .and .u64 e f) (bits .and .u64 (bits .xor .u64 18446744073709551615 e) g)):=by
  rw[cut5 _ (bits_lo_u64 _ _ _)]
  have h0:=bits_lo_u64 .xor (bits .and .u64 e f) (bits .and .u64 (bits .xor .u64 18446744073709551615 e) g)
  have h1:=bits_hi_u64 .xor (bits .and .u64 e f) (bits .and .u64 (bits .xor .u64 18446744073709551615 e) g)
  exact⟨by omega,by omega,by omega⟩
theorem mjq5 (e f g:Int) (he:W5 e) (hf:W5 f) (hg:W5 g):bits .xor .u64 (bits .xor .u64 (bits .and .u64 e f) (bits .and .u64 e g)) (bits .and .u64 f g)=bits .xor .u64 (bits .xor .u64 (bits .and .u64 e f) (bits .and .u64 e g)) (bits .and .u64 f g)∧W5 (bits .xor .u64 (bits .xor .u64 (bits .and .u64 e f) (bits .and .u64 e g)) (bits .and .u64 f g)):=by
  have h0:=bits_lo_u64 .xor (bits .xor .u64 (bits .and .u64 e f) (bits .and .u64 e g)) (bits .and .u64 f g)
  have h1:=bits_hi_u64 .xor (bits .xor .u64 (bits .and .u64 e f) (bits .and .u64 e g)) (bits .and .u64 f g)
  exact⟨rfl,by omega,by omega⟩
theorem wordq5 (Y:List Int) (i:Nat) (h:∀ q,W5 (Y.getD q 0)):xm5 Y i=mx5 Y i∧W5 (mx5 Y i):=by
  obtain⟨m1,r1⟩:=mixq5_3 _ (h (i - 2))
  obtain⟨m2,r2⟩:=mixq5_2 _ (h (i - 15))
  have r3:=h (i - 7)
  have r4:=h (i - 16)
  unfold xm5 mx5
  rw[m1,m2,cut5 _ (by rw[IntKind.wrap_u64];omega)]
  generalize so5 (Y.getD (i - 2) 0)=p1 at*
  generalize sz5 (Y.getD (i - 15) 0)=p2 at*
  generalize Y.getD (i - 7) 0=p3 at*
  generalize Y.getD (i - 16) 0=p4 at*
  simp only[IntKind.wrap_u64,IntKind.wrap_u64]
  exact⟨by omega,by omega,by omega⟩
structure WS5 (z:S8):Prop where
  a:W5 z.a
  b:W5 z.b
  c:W5 z.c
  d:W5 z.d
  e:W5 z.e
  f:W5 z.f
  g:W5 z.g
  h:W5 z.h
theorem constq5 (r:Nat) (hr:r<80):kL5.getD r 0 / 2 ^ (0)=kL5.getD r 0∧W5 (kL5.getD r 0):=by
  have h:∀ r:Fin 80,kL5.getD r.1 0 / 2 ^ (0)=kL5.getD r.1 0∧W5 (kL5.getD r.1 0):=by decide
  exact h ⟨r,hr⟩
theorem roundq5 (Y:List Int) (r:Nat) (hr:r<80) (z:S8) (hz:WS5 z) (hw:W5 (Y.getD r 0)):rdD5 Y r z=rnd5 (kL5.getD r 0) (Y.getD r 0) z∧WS5 (rnd5 (kL5.getD r 0) (Y.getD r 0) z):=by
  obtain⟨k1,k2⟩:=constq5 r hr
  obtain⟨m0,r0⟩:=mixq5_0 _ hz.a
  obtain⟨m1,r1⟩:=mixq5_1 _ hz.e
  obtain⟨c1,c2⟩:=chq5 _ _ _ hz.e hz.f hz.g
  obtain⟨j1,j2⟩:=mjq5 _ _ _ hz.a hz.b hz.c
  have hd:=hz.d
  have hh:=hz.h
  have et:Int.toNat ((r:Nat):Int)=r:=Int.toNat_natCast r
  unfold rdD5 rnd5 t15 t25
  rw[et,k1,m0,m1,c1,j1,cut5 _ (by rw[IntKind.wrap_u64];omega),cut5 _ (by rw[IntKind.wrap_u64];omega)]
  generalize gz5 z.a=p0 at*
  generalize go5 z.e=p1 at*
  generalize bits .xor .u64 (bits .and .u64 z.e z.f) (bits .and .u64 (bits .xor .u64 18446744073709551615 z.e) z.g)=p2 at*
  generalize bits .xor .u64 (bits .xor .u64 (bits .and .u64 z.a z.b) (bits .and .u64 z.a z.c)) (bits .and .u64 z.b z.c)=p3 at*
  generalize kL5.getD r 0=p4 at*
  generalize Y.getD r 0=p5 at*
  simp only[IntKind.wrap_u64,IntKind.wrap_u64]
  refine⟨?_,⟨by constructor<;>(dsimp only;omega),hz.a,hz.b,hz.c,by constructor<;>(dsimp only;omega),hz.e,hz.f,hz.g⟩⟩
  congr 1
  · omega
  · omega
theorem itq5 (Y:List Int) (hY:∀ q,W5 (Y.getD q 0)) (y:S8) (hy:WS5 y):∀ r,r≤80→itD5 Y y r=itr5 Y y r∧WS5 (itr5 Y y r)
  |0,_=>⟨rfl,hy⟩
  | r + 1, h => by
    obtain⟨h1,h2⟩:=itq5 Y hY y hy r (by omega)
    obtain⟨h3,h4⟩:=roundq5 Y r (by omega) _ h2 (hY r)
    exact⟨by rw[itD5,itr5,h1,h3],h4⟩
theorem addq5 (S:List Int) (z:S8) (hS:WS5 (toS S)) (hz:WS5 z):adD5 (toS S) z=toS (add5 S z)∧WS5 (toS (add5 S z)):=by
  obtain⟨a1,a2,a3,a4,a5,a6,a7,a8⟩:=hS
  obtain⟨b1,b2,b3,b4,b5,b6,b7,b8⟩:=hz
  simp only[toS] at a1 a2 a3 a4 a5 a6 a7 a8
  unfold adD5
  simp only[toS,add5,List.getD_cons_zero,List.getD_cons_succ]
  rw[cut5 _ (by rw[IntKind.wrap_u64];omega),cut5 _ (by rw[IntKind.wrap_u64];omega),cut5 _ (by rw[IntKind.wrap_u64];omega),cut5 _ (by rw[IntKind.wrap_u64];omega),cut5 _ (by rw[IntKind.wrap_u64];omega),cut5 _ (by rw[IntKind.wrap_u64];omega),cut5 _ (by rw[IntKind.wrap_u64];omega),cut5 _ (by rw[IntKind.wrap_u64];omega)]
  simp only[IntKind.wrap_u64,IntKind.wrap_u64]
  refine⟨?_,by constructor<;>(constructor<;>(dsimp only;omega))⟩
  congr 1<;>omega
theorem spq5 (A : List Int) (p : Nat) (b : Nat → Int) (hb : ∀ i, i < 16 → xw5 A p i = b i ∧ W5 (b i)) : ∀ i, spD5 A p i = spL5 b i ∧ ∀ q, W5 ((spL5 b i).getD q 0)
  |0=>⟨rfl,fun q=>by simp only[spL5,List.getD_nil];exact⟨by decide,by decide⟩⟩
  | i + 1 => by
    obtain⟨h1,h2⟩:=spq5 A p b hb i
    obtain⟨w1,w2⟩:=wordq5 _ i h2
    have e:(if i<16 then xw5 A p i else xm5 (spL5 b i) i)=(if i<16 then b i else mx5 (spL5 b i) i):=by
      split
      · rename_i h;exact(hb i h).1
      · exact w1
    have hw:W5 (if i<16 then b i else mx5 (spL5 b i) i):=by
      split
      · rename_i h;exact(hb i h).2
      · exact w2
    refine⟨by rw[spD5,spL5,h1,e],fun q=> ?_⟩
    rw[spL5]
    rw[List.getD_eq_getElem?_getD,List.getElem?_append]
    split
    · have := h2 q
      rwa[List.getD_eq_getElem?_getD] at this
    · rw [spL5_len]
      by_cases h:q - i=0
      · rw[h];exact hw
      · rw [List.getElem?_eq_none (by simp; omega)]
        exact⟨by decide,by decide⟩
theorem blockq5 (A:List Int) (p:Nat) (b:Nat→Int) (hb:∀ i,i<16→xw5 A p i=b i∧W5 (b i)) (S:List Int) (hS:WS5 (toS S)):adD5 (toS S) (itD5 (spD5 A p 80) (toS S) 80)=toS (bhd5 S b)∧WS5 (toS (bhd5 S b)):=by
  obtain⟨h1,h2⟩:=spq5 A p b hb 80
  obtain⟨h3,h4⟩:=itq5 _ h2 (toS S) hS 80 (Nat.le_refl _)
  obtain⟨h5,h6⟩:=addq5 S _ hS h4
  unfold bhd5
  rw[h1,h3]
  exact⟨h5,h6⟩
end Go.Proofs.YteikpadpogkepaaDoor
