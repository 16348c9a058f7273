import Derived.Test.YtcfnjcacdmkgbaaDoorZMEndsSdA1
import Derived.Laws.Bits64b
import Derived.Laws.Closers25b
set_option linter.unusedSimpArgs false
set_option linter.unusedVariables false
/-! The document's SHA-2: what is reckoned. -/
namespace Go.Proofs.YtcfnjcacdmkgbaaDoor
open Go.RowKit Go.Ev
def sD2:S8:=⟨(bg5.getD 0 0) / 2 ^ (32),(bg5.getD 1 0) / 2 ^ (32),(bg5.getD 2 0) / 2 ^ (32),(bg5.getD 3 0) / 2 ^ (32),(bg5.getD 4 0) / 2 ^ (32),(bg5.getD 5 0) / 2 ^ (32),(bg5.getD 6 0) / 2 ^ (32),(bg5.getD 7 0) / 2 ^ (32)⟩
def xw2 (A:List Int) (p i:Nat):Int:=IntKind.u64.wrap ((IntKind.u64.wrap ((IntKind.u64.wrap ((IntKind.u64.wrap ((IntKind.u64.wrap ((IntKind.u64.wrap ((IntKind.u64.wrap (0+(IntKind.u64.wrap (A.getD (p+(i*4)) 0))))*256))+(IntKind.u64.wrap (A.getD (p+(i*4)+1) 0))))*256))+(IntKind.u64.wrap (A.getD (p+(i*4)+2) 0))))*256))+(IntKind.u64.wrap (A.getD (p+(i*4)+3) 0)))
def xm2 (Y:List Int) (i:Nat):Int:=(cu2 (IntKind.u64.wrap ((IntKind.u64.wrap ((IntKind.u64.wrap ((dmx2 3 (Y.getD (i - 2) 0))+(Y.getD (i - 7) 0)))+(dmx2 2 (Y.getD (i - 15) 0))))+(Y.getD (i - 16) 0))))
def spD2 (A:List Int) (p:Nat):Nat→List Int
  |0=> []
  |i+1=>spD2 A p i ++ [if i<16 then xw2 A p i else xm2 (spD2 A p i) i]
def rdD2 (Y:List Int) (r:Nat) (z:S8):S8:=⟨(cu2 (IntKind.u64.wrap ((IntKind.u64.wrap ((IntKind.u64.wrap ((IntKind.u64.wrap ((IntKind.u64.wrap (z.h+(dmx2 1 z.e)))+(cu2 (bits .xor .u64 (bits .and .u64 z.e z.f) (bits .and .u64 (bits .xor .u64 18446744073709551615 z.e) z.g)))))+((kL5.getD (Int.toNat (r:Int)) 0) / 2 ^ (32))))+(Y.getD r 0)))+(IntKind.u64.wrap ((dmx2 0 z.a)+(bits .xor .u64 (bits .xor .u64 (bits .and .u64 z.a z.b) (bits .and .u64 z.a z.c)) (bits .and .u64 z.b z.c))))))),z.a,z.b,z.c,(cu2 (IntKind.u64.wrap (z.d+(IntKind.u64.wrap ((IntKind.u64.wrap ((IntKind.u64.wrap ((IntKind.u64.wrap (z.h+(dmx2 1 z.e)))+(cu2 (bits .xor .u64 (bits .and .u64 z.e z.f) (bits .and .u64 (bits .xor .u64 18446744073709551615 z.e) z.g)))))+((kL5.getD (Int.toNat (r:Int)) 0) / 2 ^ (32))))+(Y.getD r 0)))))),z.e,z.f,z.g⟩
def itD2 (Y:List Int) (y:S8):Nat→S8
  |0=>y
  |r+1=>rdD2 Y r (itD2 Y y r)
def adD2 (y z:S8):S8:=⟨(cu2 (IntKind.u64.wrap (y.a+z.a))),(cu2 (IntKind.u64.wrap (y.b+z.b))),(cu2 (IntKind.u64.wrap (y.c+z.c))),(cu2 (IntKind.u64.wrap (y.d+z.d))),(cu2 (IntKind.u64.wrap (y.e+z.e))),(cu2 (IntKind.u64.wrap (y.f+z.f))),(cu2 (IntKind.u64.wrap (y.g+z.g))),(cu2 (IntKind.u64.wrap (y.h+z.h)))⟩
def hsD2 (A:List Int):Nat→S8
  |0=>sD2
  |k+1=>adD2 (hsD2 A k) (itD2 (spD2 A (64*k) 64) (hsD2 A k) 64)
def oL2 (L:List Int) (q:Nat):List Int:=(List.range q).map fun x=>IntKind.u8.wrap (L.getD (x / 4) 0 / 2 ^ min (8*(3 - x%4)) 64)
theorem oL2_len (L:List Int) (q:Nat):(oL2 L q).length=q:=by simp[oL2]
theorem oL2_step (L:List Int) {i r:Nat} (hr:r<4):oL2 L (4*i+r+1)=oL2 L (4*i+r) ++ [IntKind.u8.wrap (L.getD i 0 / 2 ^ min (8*(3 - r)) 64)]:=by
  unfold oL2
  rw[List.range_succ,List.map_append,show(4*i+r)=r+4*i from by omega]
  simp only[List.map_cons,List.map_nil]
  rw[Nat.add_mul_div_left _ _ (by decide),Nat.add_mul_mod_self_left,Nat.mod_eq_of_lt hr,Nat.div_eq_of_lt hr,Nat.zero_add]
def sD5:S8:=⟨(bg5.getD 0 0) / 2 ^ (0),(bg5.getD 1 0) / 2 ^ (0),(bg5.getD 2 0) / 2 ^ (0),(bg5.getD 3 0) / 2 ^ (0),(bg5.getD 4 0) / 2 ^ (0),(bg5.getD 5 0) / 2 ^ (0),(bg5.getD 6 0) / 2 ^ (0),(bg5.getD 7 0) / 2 ^ (0)⟩
def xw5 (A:List Int) (p i:Nat):Int:=IntKind.u64.wrap ((IntKind.u64.wrap ((IntKind.u64.wrap ((IntKind.u64.wrap ((IntKind.u64.wrap ((IntKind.u64.wrap ((IntKind.u64.wrap ((IntKind.u64.wrap ((IntKind.u64.wrap ((IntKind.u64.wrap ((IntKind.u64.wrap ((IntKind.u64.wrap ((IntKind.u64.wrap ((IntKind.u64.wrap ((IntKind.u64.wrap (0+(IntKind.u64.wrap (A.getD (p+(i*8)) 0))))*256))+(IntKind.u64.wrap (A.getD (p+(i*8)+1) 0))))*256))+(IntKind.u64.wrap (A.getD (p+(i*8)+2) 0))))*256))+(IntKind.u64.wrap (A.getD (p+(i*8)+3) 0))))*256))+(IntKind.u64.wrap (A.getD (p+(i*8)+4) 0))))*256))+(IntKind.u64.wrap (A.getD (p+(i*8)+5) 0))))*256))+(IntKind.u64.wrap (A.getD (p+(i*8)+6) 0))))*256))+(IntKind.u64.wrap (A.getD (p+(i*8)+7) 0)))
def xm5 (Y:List Int) (i:Nat):Int:=(cu5 (IntKind.u64.wrap ((IntKind.u64.wrap ((IntKind.u64.wrap ((dmx5 3 (Y.getD (i - 2) 0))+(Y.getD (i - 7) 0)))+(dmx5 2 (Y.getD (i - 15) 0))))+(Y.getD (i - 16) 0))))
def spD5 (A:List Int) (p:Nat):Nat→List Int
  |0=> []
  |i+1=>spD5 A p i ++ [if i<16 then xw5 A p i else xm5 (spD5 A p i) i]
def rdD5 (Y:List Int) (r:Nat) (z:S8):S8:=⟨(cu5 (IntKind.u64.wrap ((IntKind.u64.wrap ((IntKind.u64.wrap ((IntKind.u64.wrap ((IntKind.u64.wrap (z.h+(dmx5 1 z.e)))+(cu5 (bits .xor .u64 (bits .and .u64 z.e z.f) (bits .and .u64 (bits .xor .u64 18446744073709551615 z.e) z.g)))))+((kL5.getD (Int.toNat (r:Int)) 0) / 2 ^ (0))))+(Y.getD r 0)))+(IntKind.u64.wrap ((dmx5 0 z.a)+(bits .xor .u64 (bits .xor .u64 (bits .and .u64 z.a z.b) (bits .and .u64 z.a z.c)) (bits .and .u64 z.b z.c))))))),z.a,z.b,z.c,(cu5 (IntKind.u64.wrap (z.d+(IntKind.u64.wrap ((IntKind.u64.wrap ((IntKind.u64.wrap ((IntKind.u64.wrap (z.h+(dmx5 1 z.e)))+(cu5 (bits .xor .u64 (bits .and .u64 z.e z.f) (bits .and .u64 (bits .xor .u64 18446744073709551615 z.e) z.g)))))+((kL5.getD (Int.toNat (r:Int)) 0) / 2 ^ (0))))+(Y.getD r 0)))))),z.e,z.f,z.g⟩
def itD5 (Y:List Int) (y:S8):Nat→S8
  |0=>y
  |r+1=>rdD5 Y r (itD5 Y y r)
def adD5 (y z:S8):S8:=⟨(cu5 (IntKind.u64.wrap (y.a+z.a))),(cu5 (IntKind.u64.wrap (y.b+z.b))),(cu5 (IntKind.u64.wrap (y.c+z.c))),(cu5 (IntKind.u64.wrap (y.d+z.d))),(cu5 (IntKind.u64.wrap (y.e+z.e))),(cu5 (IntKind.u64.wrap (y.f+z.f))),(cu5 (IntKind.u64.wrap (y.g+z.g))),(cu5 (IntKind.u64.wrap (y.h+z.h)))⟩
def hsD5 (A:List Int):Nat→S8
  |0=>sD5
  |k+1=>adD5 (hsD5 A k) (itD5 (spD5 A (128*k) 80) (hsD5 A k) 80)
def oL5 (L:List Int) (q:Nat):List Int:=(List.range q).map fun x=>IntKind.u8.wrap (L.getD (x / 8) 0 / 2 ^ min (8*(7 - x%8)) 64)
theorem oL5_len (L:List Int) (q:Nat):(oL5 L q).length=q:=by simp[oL5]
end Go.Proofs.YtcfnjcacdmkgbaaDoor

set_option linter.unusedSimpArgs false
set_option linter.unusedVariables false
/-! The document's words are the program's. -/
namespace Go.Proofs.YtcfnjcacdmkgbaaDoor
open Go.RowKit Go.Ev
theorem ofI32 (a:Nat) (h:a<4294967296):(BitVec.ofInt 32 (a:Int)).toNat=a:=by
  rw[BitVec.ofInt_natCast,BitVec.toNat_ofNat];exact Nat.mod_eq_of_lt (by omega)
theorem x32 (a b:Nat) (ha:a<4294967296) (hb:b<4294967296):bits .xor .u32 (a:Int) (b:Int)=((a ^^^ b:Nat):Int):=by
  have hx:a ^^^ b<2 ^ 32:=Nat.xor_lt_two_pow (by omega) (by omega)
  show IntKind.u32.wrap ((BitVec.ofInt 32 (a:Int) ^^^ BitVec.ofInt 32 (b:Int)).toNat:Int)=_
  rw[BitVec.toNat_xor,ofI32 a ha,ofI32 b hb,IntKind.wrap_u32];omega
theorem a32 (a b:Nat) (ha:a<4294967296) (hb:b<4294967296):bits .and .u32 (a:Int) (b:Int)=((a &&& b:Nat):Int):=by
  have hx:a &&& b<2 ^ 32:=Nat.and_lt_two_pow _ (by omega)
  show IntKind.u32.wrap ((BitVec.ofInt 32 (a:Int) &&& BitVec.ofInt 32 (b:Int)).toNat:Int)=_
  rw[BitVec.toNat_and,ofI32 a ha,ofI32 b hb,IntKind.wrap_u32];omega
theorem o32 (a b:Nat) (ha:a<4294967296) (hb:b<4294967296):bits .or .u32 (a:Int) (b:Int)=((a ||| b:Nat):Int):=by
  have hx:a ||| b<2 ^ 32:=Nat.or_lt_two_pow (by omega) (by omega)
  show IntKind.u32.wrap ((BitVec.ofInt 32 (a:Int) ||| BitVec.ofInt 32 (b:Int)).toNat:Int)=_
  rw[BitVec.toNat_or,ofI32 a ha,ofI32 b hb,IntKind.wrap_u32];omega
theorem x64 (a b:Nat) (ha:a<18446744073709551616) (hb:b<18446744073709551616):bits .xor .u64 (a:Int) (b:Int)=((a ^^^ b:Nat):Int):=bits_xor_u64_nat a b ha hb
theorem a64 (a b:Nat) (ha:a<18446744073709551616) (hb:b<18446744073709551616):bits .and .u64 (a:Int) (b:Int)=((a &&& b:Nat):Int):=bits_and_u64_nat a b ha hb
theorem o64 (a b:Nat) (ha:a<18446744073709551616) (hb:b<18446744073709551616):bits .or .u64 (a:Int) (b:Int)=((a ||| b:Nat):Int):=bits_or_u64_nat a b ha hb
def rot (b n x:Nat):Nat:=x / 2 ^ n+x%2 ^ n*2 ^ (b - n)
theorem rot_lt {b n x:Nat} (hn:n≤b) (hx:x<2 ^ b):rot b n x<2 ^ b:=by
  unfold rot
  have e:2 ^ b=2 ^ n*2 ^ (b - n):=by rw[← Nat.pow_add];congr 1;omega
  have h1:x / 2 ^ n<2 ^ (b - n):=by
    rw[Nat.div_lt_iff_lt_mul (Nat.two_pow_pos n),Nat.mul_comm,← e];exact hx
  have h2:x%2 ^ n<2 ^ n:=Nat.mod_lt _ (Nat.two_pow_pos n)
  have h3:(x%2 ^ n+1)*2 ^ (b - n)≤2 ^ n*2 ^ (b - n):=Nat.mul_le_mul_right _ h2
  rw[Nat.add_mul,Nat.one_mul] at h3
  omega
theorem rot_or {b n x:Nat} (hn:n≤b) (hx:x<2 ^ b):(x*2 ^ (b - n)%2 ^ b) ||| (x / 2 ^ n)=rot b n x:=by
  have e:2 ^ b=2 ^ n*2 ^ (b - n):=by rw[← Nat.pow_add];congr 1;omega
  have h1:x / 2 ^ n<2 ^ (b - n):=by
    rw[Nat.div_lt_iff_lt_mul (Nat.two_pow_pos n),Nat.mul_comm,← e];exact hx
  rw[e,Nat.mul_mod_mul_right,Nat.mul_comm (x%2 ^ n),← Nat.two_pow_add_eq_or_of_lt h1]
  unfold rot
  rw[Nat.mul_comm (x%2 ^ n)];omega
theorem cut2 (x:Int) (h0:0≤x):cu2 x=x%4294967296:=by
  unfold cu2
  rw[IntKind.wrap_u64]
  have e:(2:Int) ^ (32)=4294967296:=by decide
  rw[e];omega
theorem rlq2_2 (x:Nat) (hx:x<4294967296):rl32 (x:Int) (-2)=((rot 32 2 x:Nat):Int):=by
  have e1:min (Int.toNat (bits .and .u64 (IntKind.u64.wrap (-2)) 31)) 32=30:=by kernel_rfl
  have e2:min (Int.toNat (IntKind.u64.wrap (32 - bits .and .u64 (IntKind.u64.wrap (-2)) 31))) 32=2:=by kernel_rfl
  unfold rl32
  rw[e1,e2]
  have f1:IntKind.u32.wrap ((x:Int)*2 ^ 30)=((x*2 ^ (32 - 2)%2 ^ 32:Nat):Int):=by
    rw[IntKind.wrap_u32];simp
  have f2:(x:Int) / 2 ^ 2=((x / 2 ^ 2:Nat):Int):=by simp
  rw[f1,f2,o32 _ _ (by have:=Nat.mod_lt (x*2 ^ (32 - 2)) (Nat.two_pow_pos 32);omega) (by have:=Nat.div_le_self x (2 ^ 2);omega),rot_or (by decide) (by omega)]
theorem rgq2_2 (x:Nat) (hx:x<4294967296):rg2 (x:Int) 2=((rot 32 2 x:Nat):Int):=by
  have e1:min (Int.toNat (2:Int)) 64=2:=by decide
  have e2:min (Int.toNat (IntKind.i64.wrap (32 - (2:Int)))) 64=30:=by kernel_rfl
  have hr:=rot_lt (b:=32) (n:=2) (x:=x) (by decide) (by omega)
  unfold rg2
  rw[e1,e2,cut2 _ (by rw[IntKind.wrap_u64];omega)]
  have p1:(2:Int) ^ 2=4:=by decide
  have p2:(2:Int) ^ 30=1073741824:=by decide
  rw[p1,p2,IntKind.wrap_u64,IntKind.wrap_u64]
  unfold rot at hr ⊢
  simp only[show(2:Nat) ^ 2=4 from by decide,show(2:Nat) ^ (32 - 2)=1073741824 from by decide,show(2:Nat) ^ 32=4294967296 from by decide] at hr ⊢
  omega
theorem rlq2_6 (x:Nat) (hx:x<4294967296):rl32 (x:Int) (-6)=((rot 32 6 x:Nat):Int):=by
  have e1:min (Int.toNat (bits .and .u64 (IntKind.u64.wrap (-6)) 31)) 32=26:=by kernel_rfl
  have e2:min (Int.toNat (IntKind.u64.wrap (32 - bits .and .u64 (IntKind.u64.wrap (-6)) 31))) 32=6:=by kernel_rfl
  unfold rl32
  rw[e1,e2]
  have f1:IntKind.u32.wrap ((x:Int)*2 ^ 26)=((x*2 ^ (32 - 6)%2 ^ 32:Nat):Int):=by
    rw[IntKind.wrap_u32];simp
  have f2:(x:Int) / 2 ^ 6=((x / 2 ^ 6:Nat):Int):=by simp
  rw[f1,f2,o32 _ _ (by have:=Nat.mod_lt (x*2 ^ (32 - 6)) (Nat.two_pow_pos 32);omega) (by have:=Nat.div_le_self x (2 ^ 6);omega),rot_or (by decide) (by omega)]
theorem rgq2_6 (x:Nat) (hx:x<4294967296):rg2 (x:Int) 6=((rot 32 6 x:Nat):Int):=by
  have e1:min (Int.toNat (6:Int)) 64=6:=by decide
  have e2:min (Int.toNat (IntKind.i64.wrap (32 - (6:Int)))) 64=26:=by kernel_rfl
  have hr:=rot_lt (b:=32) (n:=6) (x:=x) (by decide) (by omega)
  unfold rg2
  rw[e1,e2,cut2 _ (by rw[IntKind.wrap_u64];omega)]
  have p1:(2:Int) ^ 6=64:=by decide
  have p2:(2:Int) ^ 26=67108864:=by decide
  rw[p1,p2,IntKind.wrap_u64,IntKind.wrap_u64]
  unfold rot at hr ⊢
  simp only[show(2:Nat) ^ 6=64 from by decide,show(2:Nat) ^ (32 - 6)=67108864 from by decide,show(2:Nat) ^ 32=4294967296 from by decide] at hr ⊢
  omega
theorem rlq2_7 (x:Nat) (hx:x<4294967296):rl32 (x:Int) (-7)=((rot 32 7 x:Nat):Int):=by
  have e1:min (Int.toNat (bits .and .u64 (IntKind.u64.wrap (-7)) 31)) 32=25:=by kernel_rfl
  have e2:min (Int.toNat (IntKind.u64.wrap (32 - bits .and .u64 (IntKind.u64.wrap (-7)) 31))) 32=7:=by kernel_rfl
  unfold rl32
  rw[e1,e2]
  have f1:IntKind.u32.wrap ((x:Int)*2 ^ 25)=((x*2 ^ (32 - 7)%2 ^ 32:Nat):Int):=by
    rw[IntKind.wrap_u32];simp
  have f2:(x:Int) / 2 ^ 7=((x / 2 ^ 7:Nat):Int):=by simp
  rw[f1,f2,o32 _ _ (by have:=Nat.mod_lt (x*2 ^ (32 - 7)) (Nat.two_pow_pos 32);omega) (by have:=Nat.div_le_self x (2 ^ 7);omega),rot_or (by decide) (by omega)]
theorem rgq2_7 (x:Nat) (hx:x<4294967296):rg2 (x:Int) 7=((rot 32 7 x:Nat):Int):=by
  have e1:min (Int.toNat (7:Int)) 64=7:=by decide
  have e2:min (Int.toNat (IntKind.i64.wrap (32 - (7:Int)))) 64=25:=by kernel_rfl
  have hr:=rot_lt (b:=32) (n:=7) (x:=x) (by decide) (by omega)
  unfold rg2
  rw[e1,e2,cut2 _ (by rw[IntKind.wrap_u64];omega)]
  have p1:(2:Int) ^ 7=128:=by decide
  have p2:(2:Int) ^ 25=33554432:=by decide
  rw[p1,p2,IntKind.wrap_u64,IntKind.wrap_u64]
  unfold rot at hr ⊢
  simp only[show(2:Nat) ^ 7=128 from by decide,show(2:Nat) ^ (32 - 7)=33554432 from by decide,show(2:Nat) ^ 32=4294967296 from by decide] at hr ⊢
  omega
theorem rlq2_11 (x:Nat) (hx:x<4294967296):rl32 (x:Int) (-11)=((rot 32 11 x:Nat):Int):=by
  have e1:min (Int.toNat (bits .and .u64 (IntKind.u64.wrap (-11)) 31)) 32=21:=by kernel_rfl
  have e2:min (Int.toNat (IntKind.u64.wrap (32 - bits .and .u64 (IntKind.u64.wrap (-11)) 31))) 32=11:=by kernel_rfl
  unfold rl32
  rw[e1,e2]
  have f1:IntKind.u32.wrap ((x:Int)*2 ^ 21)=((x*2 ^ (32 - 11)%2 ^ 32:Nat):Int):=by
    rw[IntKind.wrap_u32];simp
  have f2:(x:Int) / 2 ^ 11=((x / 2 ^ 11:Nat):Int):=by simp
  rw[f1,f2,o32 _ _ (by have:=Nat.mod_lt (x*2 ^ (32 - 11)) (Nat.two_pow_pos 32);omega) (by have:=Nat.div_le_self x (2 ^ 11);omega),rot_or (by decide) (by omega)]
theorem rgq2_11 (x:Nat) (hx:x<4294967296):rg2 (x:Int) 11=((rot 32 11 x:Nat):Int):=by
  have e1:min (Int.toNat (11:Int)) 64=11:=by decide
  have e2:min (Int.toNat (IntKind.i64.wrap (32 - (11:Int)))) 64=21:=by kernel_rfl
  have hr:=rot_lt (b:=32) (n:=11) (x:=x) (by decide) (by omega)
  unfold rg2
  rw[e1,e2,cut2 _ (by rw[IntKind.wrap_u64];omega)]
  have p1:(2:Int) ^ 11=2048:=by decide
  have p2:(2:Int) ^ 21=2097152:=by decide
  rw[p1,p2,IntKind.wrap_u64,IntKind.wrap_u64]
  unfold rot at hr ⊢
  simp only[show(2:Nat) ^ 11=2048 from by decide,show(2:Nat) ^ (32 - 11)=2097152 from by decide,show(2:Nat) ^ 32=4294967296 from by decide] at hr ⊢
  omega
theorem rlq2_13 (x:Nat) (hx:x<4294967296):rl32 (x:Int) (-13)=((rot 32 13 x:Nat):Int):=by
  have e1:min (Int.toNat (bits .and .u64 (IntKind.u64.wrap (-13)) 31)) 32=19:=by kernel_rfl
  have e2:min (Int.toNat (IntKind.u64.wrap (32 - bits .and .u64 (IntKind.u64.wrap (-13)) 31))) 32=13:=by kernel_rfl
  unfold rl32
  rw[e1,e2]
  have f1:IntKind.u32.wrap ((x:Int)*2 ^ 19)=((x*2 ^ (32 - 13)%2 ^ 32:Nat):Int):=by
    rw[IntKind.wrap_u32];simp
  have f2:(x:Int) / 2 ^ 13=((x / 2 ^ 13:Nat):Int):=by simp
  rw[f1,f2,o32 _ _ (by have:=Nat.mod_lt (x*2 ^ (32 - 13)) (Nat.two_pow_pos 32);omega) (by have:=Nat.div_le_self x (2 ^ 13);omega),rot_or (by decide) (by omega)]
theorem rgq2_13 (x:Nat) (hx:x<4294967296):rg2 (x:Int) 13=((rot 32 13 x:Nat):Int):=by
  have e1:min (Int.toNat (13:Int)) 64=13:=by decide
  have e2:min (Int.toNat (IntKind.i64.wrap (32 - (13:Int)))) 64=19:=by kernel_rfl
  have hr:=rot_lt (b:=32) (n:=13) (x:=x) (by decide) (by omega)
  unfold rg2
  rw[e1,e2,cut2 _ (by rw[IntKind.wrap_u64];omega)]
  have p1:(2:Int) ^ 13=8192:=by decide
  have p2:(2:Int) ^ 19=524288:=by decide
  rw[p1,p2,IntKind.wrap_u64,IntKind.wrap_u64]
  unfold rot at hr ⊢
  simp only[show(2:Nat) ^ 13=8192 from by decide,show(2:Nat) ^ (32 - 13)=524288 from by decide,show(2:Nat) ^ 32=4294967296 from by decide] at hr ⊢
  omega
theorem rlq2_17 (x:Nat) (hx:x<4294967296):rl32 (x:Int) (-17)=((rot 32 17 x:Nat):Int):=by
  have e1:min (Int.toNat (bits .and .u64 (IntKind.u64.wrap (-17)) 31)) 32=15:=by kernel_rfl
  have e2:min (Int.toNat (IntKind.u64.wrap (32 - bits .and .u64 (IntKind.u64.wrap (-17)) 31))) 32=17:=by kernel_rfl
  unfold rl32
  rw[e1,e2]
  have f1:IntKind.u32.wrap ((x:Int)*2 ^ 15)=((x*2 ^ (32 - 17)%2 ^ 32:Nat):Int):=by
    rw[IntKind.wrap_u32];simp
  have f2:(x:Int) / 2 ^ 17=((x / 2 ^ 17:Nat):Int):=by simp
  rw[f1,f2,o32 _ _ (by have:=Nat.mod_lt (x*2 ^ (32 - 17)) (Nat.two_pow_pos 32);omega) (by have:=Nat.div_le_self x (2 ^ 17);omega),rot_or (by decide) (by omega)]
theorem rgq2_17 (x:Nat) (hx:x<4294967296):rg2 (x:Int) 17=((rot 32 17 x:Nat):Int):=by
  have e1:min (Int.toNat (17:Int)) 64=17:=by decide
  have e2:min (Int.toNat (IntKind.i64.wrap (32 - (17:Int)))) 64=15:=by kernel_rfl
  have hr:=rot_lt (b:=32) (n:=17) (x:=x) (by decide) (by omega)
  unfold rg2
  rw[e1,e2,cut2 _ (by rw[IntKind.wrap_u64];omega)]
  have p1:(2:Int) ^ 17=131072:=by decide
  have p2:(2:Int) ^ 15=32768:=by decide
  rw[p1,p2,IntKind.wrap_u64,IntKind.wrap_u64]
  unfold rot at hr ⊢
  simp only[show(2:Nat) ^ 17=131072 from by decide,show(2:Nat) ^ (32 - 17)=32768 from by decide,show(2:Nat) ^ 32=4294967296 from by decide] at hr ⊢
  omega
theorem rlq2_18 (x:Nat) (hx:x<4294967296):rl32 (x:Int) (-18)=((rot 32 18 x:Nat):Int):=by
  have e1:min (Int.toNat (bits .and .u64 (IntKind.u64.wrap (-18)) 31)) 32=14:=by kernel_rfl
  have e2:min (Int.toNat (IntKind.u64.wrap (32 - bits .and .u64 (IntKind.u64.wrap (-18)) 31))) 32=18:=by kernel_rfl
  unfold rl32
  rw[e1,e2]
  have f1:IntKind.u32.wrap ((x:Int)*2 ^ 14)=((x*2 ^ (32 - 18)%2 ^ 32:Nat):Int):=by
    rw[IntKind.wrap_u32];simp
  have f2:(x:Int) / 2 ^ 18=((x / 2 ^ 18:Nat):Int):=by simp
  rw[f1,f2,o32 _ _ (by have:=Nat.mod_lt (x*2 ^ (32 - 18)) (Nat.two_pow_pos 32);omega) (by have:=Nat.div_le_self x (2 ^ 18);omega),rot_or (by decide) (by omega)]
theorem rgq2_18 (x:Nat) (hx:x<4294967296):rg2 (x:Int) 18=((rot 32 18 x:Nat):Int):=by
  have e1:min (Int.toNat (18:Int)) 64=18:=by decide
  have e2:min (Int.toNat (IntKind.i64.wrap (32 - (18:Int)))) 64=14:=by kernel_rfl
  have hr:=rot_lt (b:=32) (n:=18) (x:=x) (by decide) (by omega)
  unfold rg2
  rw[e1,e2,cut2 _ (by rw[IntKind.wrap_u64];omega)]
  have p1:(2:Int) ^ 18=262144:=by decide
  have p2:(2:Int) ^ 14=16384:=by decide
  rw[p1,p2,IntKind.wrap_u64,IntKind.wrap_u64]
  unfold rot at hr ⊢
  simp only[show(2:Nat) ^ 18=262144 from by decide,show(2:Nat) ^ (32 - 18)=16384 from by decide,show(2:Nat) ^ 32=4294967296 from by decide] at hr ⊢
  omega
theorem rlq2_19 (x:Nat) (hx:x<4294967296):rl32 (x:Int) (-19)=((rot 32 19 x:Nat):Int):=by
  have e1:min (Int.toNat (bits .and .u64 (IntKind.u64.wrap (-19)) 31)) 32=13:=by kernel_rfl
  have e2:min (Int.toNat (IntKind.u64.wrap (32 - bits .and .u64 (IntKind.u64.wrap (-19)) 31))) 32=19:=by kernel_rfl
  unfold rl32
  rw[e1,e2]
  have f1:IntKind.u32.wrap ((x:Int)*2 ^ 13)=((x*2 ^ (32 - 19)%2 ^ 32:Nat):Int):=by
    rw[IntKind.wrap_u32];simp
  have f2:(x:Int) / 2 ^ 19=((x / 2 ^ 19:Nat):Int):=by simp
  rw[f1,f2,o32 _ _ (by have:=Nat.mod_lt (x*2 ^ (32 - 19)) (Nat.two_pow_pos 32);omega) (by have:=Nat.div_le_self x (2 ^ 19);omega),rot_or (by decide) (by omega)]
theorem rgq2_19 (x:Nat) (hx:x<4294967296):rg2 (x:Int) 19=((rot 32 19 x:Nat):Int):=by
  have e1:min (Int.toNat (19:Int)) 64=19:=by decide
  have e2:min (Int.toNat (IntKind.i64.wrap (32 - (19:Int)))) 64=13:=by kernel_rfl
  have hr:=rot_lt (b:=32) (n:=19) (x:=x) (by decide) (by omega)
  unfold rg2
  rw[e1,e2,cut2 _ (by rw[IntKind.wrap_u64];omega)]
  have p1:(2:Int) ^ 19=524288:=by decide
  have p2:(2:Int) ^ 13=8192:=by decide
  rw[p1,p2,IntKind.wrap_u64,IntKind.wrap_u64]
  unfold rot at hr ⊢
  simp only[show(2:Nat) ^ 19=524288 from by decide,show(2:Nat) ^ (32 - 19)=8192 from by decide,show(2:Nat) ^ 32=4294967296 from by decide] at hr ⊢
  omega
theorem rlq2_22 (x:Nat) (hx:x<4294967296):rl32 (x:Int) (-22)=((rot 32 22 x:Nat):Int):=by
  have e1:min (Int.toNat (bits .and .u64 (IntKind.u64.wrap (-22)) 31)) 32=10:=by kernel_rfl
  have e2:min (Int.toNat (IntKind.u64.wrap (32 - bits .and .u64 (IntKind.u64.wrap (-22)) 31))) 32=22:=by kernel_rfl
  unfold rl32
  rw[e1,e2]
  have f1:IntKind.u32.wrap ((x:Int)*2 ^ 10)=((x*2 ^ (32 - 22)%2 ^ 32:Nat):Int):=by
    rw[IntKind.wrap_u32];simp
  have f2:(x:Int) / 2 ^ 22=((x / 2 ^ 22:Nat):Int):=by simp
  rw[f1,f2,o32 _ _ (by have:=Nat.mod_lt (x*2 ^ (32 - 22)) (Nat.two_pow_pos 32);omega) (by have:=Nat.div_le_self x (2 ^ 22);omega),rot_or (by decide) (by omega)]
theorem rgq2_22 (x:Nat) (hx:x<4294967296):rg2 (x:Int) 22=((rot 32 22 x:Nat):Int):=by
  have e1:min (Int.toNat (22:Int)) 64=22:=by decide
  have e2:min (Int.toNat (IntKind.i64.wrap (32 - (22:Int)))) 64=10:=by kernel_rfl
  have hr:=rot_lt (b:=32) (n:=22) (x:=x) (by decide) (by omega)
  unfold rg2
  rw[e1,e2,cut2 _ (by rw[IntKind.wrap_u64];omega)]
  have p1:(2:Int) ^ 22=4194304:=by decide
  have p2:(2:Int) ^ 10=1024:=by decide
  rw[p1,p2,IntKind.wrap_u64,IntKind.wrap_u64]
  unfold rot at hr ⊢
  simp only[show(2:Nat) ^ 22=4194304 from by decide,show(2:Nat) ^ (32 - 22)=1024 from by decide,show(2:Nat) ^ 32=4294967296 from by decide] at hr ⊢
  omega
theorem rlq2_25 (x:Nat) (hx:x<4294967296):rl32 (x:Int) (-25)=((rot 32 25 x:Nat):Int):=by
  have e1:min (Int.toNat (bits .and .u64 (IntKind.u64.wrap (-25)) 31)) 32=7:=by kernel_rfl
  have e2:min (Int.toNat (IntKind.u64.wrap (32 - bits .and .u64 (IntKind.u64.wrap (-25)) 31))) 32=25:=by kernel_rfl
  unfold rl32
  rw[e1,e2]
  have f1:IntKind.u32.wrap ((x:Int)*2 ^ 7)=((x*2 ^ (32 - 25)%2 ^ 32:Nat):Int):=by
    rw[IntKind.wrap_u32];simp
  have f2:(x:Int) / 2 ^ 25=((x / 2 ^ 25:Nat):Int):=by simp
  rw[f1,f2,o32 _ _ (by have:=Nat.mod_lt (x*2 ^ (32 - 25)) (Nat.two_pow_pos 32);omega) (by have:=Nat.div_le_self x (2 ^ 25);omega),rot_or (by decide) (by omega)]
theorem rgq2_25 (x:Nat) (hx:x<4294967296):rg2 (x:Int) 25=((rot 32 25 x:Nat):Int):=by
  have e1:min (Int.toNat (25:Int)) 64=25:=by decide
  have e2:min (Int.toNat (IntKind.i64.wrap (32 - (25:Int)))) 64=7:=by kernel_rfl
  have hr:=rot_lt (b:=32) (n:=25) (x:=x) (by decide) (by omega)
  unfold rg2
  rw[e1,e2,cut2 _ (by rw[IntKind.wrap_u64];omega)]
  have p1:(2:Int) ^ 25=33554432:=by decide
  have p2:(2:Int) ^ 7=128:=by decide
  rw[p1,p2,IntKind.wrap_u64,IntKind.wrap_u64]
  unfold rot at hr ⊢
  simp only[show(2:Nat) ^ 25=33554432 from by decide,show(2:Nat) ^ (32 - 25)=128 from by decide,show(2:Nat) ^ 32=4294967296 from by decide] at hr ⊢
  omega
theorem cut5 (x:Int) (h0:0≤x):cu5 x=x%18446744073709551616:=by
  unfold cu5
  rw[IntKind.wrap_u64]
  have e:(2:Int) ^ (0)=1:=by decide
  rw[e];omega
theorem rlq5_1 (x:Nat) (hx:x<18446744073709551616):rl64 (x:Int) (-1)=((rot 64 1 x:Nat):Int):=by
  have e1:min (Int.toNat (bits .and .u64 (IntKind.u64.wrap (-1)) 63)) 64=63:=by kernel_rfl
  have e2:min (Int.toNat (IntKind.u64.wrap (64 - bits .and .u64 (IntKind.u64.wrap (-1)) 63))) 64=1:=by kernel_rfl
  unfold rl64
  rw[e1,e2]
  have f1:IntKind.u64.wrap ((x:Int)*2 ^ 63)=((x*2 ^ (64 - 1)%2 ^ 64:Nat):Int):=by
    rw[IntKind.wrap_u64];simp
  have f2:(x:Int) / 2 ^ 1=((x / 2 ^ 1:Nat):Int):=by simp
  rw[f1,f2,o64 _ _ (by have:=Nat.mod_lt (x*2 ^ (64 - 1)) (Nat.two_pow_pos 64);omega) (by have:=Nat.div_le_self x (2 ^ 1);omega),rot_or (by decide) (by omega)]
theorem rgq5_1 (x:Nat) (hx:x<18446744073709551616):rg5 (x:Int) 1=((rot 64 1 x:Nat):Int):=by
  have e1:min (Int.toNat (1:Int)) 64=1:=by decide
  have e2:min (Int.toNat (IntKind.i64.wrap (64 - (1:Int)))) 64=63:=by kernel_rfl
  have hr:=rot_lt (b:=64) (n:=1) (x:=x) (by decide) (by omega)
  unfold rg5
  rw[e1,e2,cut5 _ (by rw[IntKind.wrap_u64];omega)]
  have p1:(2:Int) ^ 1=2:=by decide
  have p2:(2:Int) ^ 63=9223372036854775808:=by decide
  rw[p1,p2,IntKind.wrap_u64,IntKind.wrap_u64]
  unfold rot at hr ⊢
  simp only[show(2:Nat) ^ 1=2 from by decide,show(2:Nat) ^ (64 - 1)=9223372036854775808 from by decide,show(2:Nat) ^ 64=18446744073709551616 from by decide] at hr ⊢
  omega
theorem rlq5_8 (x:Nat) (hx:x<18446744073709551616):rl64 (x:Int) (-8)=((rot 64 8 x:Nat):Int):=by
  have e1:min (Int.toNat (bits .and .u64 (IntKind.u64.wrap (-8)) 63)) 64=56:=by kernel_rfl
  have e2:min (Int.toNat (IntKind.u64.wrap (64 - bits .and .u64 (IntKind.u64.wrap (-8)) 63))) 64=8:=by kernel_rfl
  unfold rl64
  rw[e1,e2]
  have f1:IntKind.u64.wrap ((x:Int)*2 ^ 56)=((x*2 ^ (64 - 8)%2 ^ 64:Nat):Int):=by
    rw[IntKind.wrap_u64];simp
  have f2:(x:Int) / 2 ^ 8=((x / 2 ^ 8:Nat):Int):=by simp
  rw[f1,f2,o64 _ _ (by have:=Nat.mod_lt (x*2 ^ (64 - 8)) (Nat.two_pow_pos 64);omega) (by have:=Nat.div_le_self x (2 ^ 8);omega),rot_or (by decide) (by omega)]
theorem rgq5_8 (x:Nat) (hx:x<18446744073709551616):rg5 (x:Int) 8=((rot 64 8 x:Nat):Int):=by
  have e1:min (Int.toNat (8:Int)) 64=8:=by decide
  have e2:min (Int.toNat (IntKind.i64.wrap (64 - (8:Int)))) 64=56:=by kernel_rfl
  have hr:=rot_lt (b:=64) (n:=8) (x:=x) (by decide) (by omega)
  unfold rg5
  rw[e1,e2,cut5 _ (by rw[IntKind.wrap_u64];omega)]
  have p1:(2:Int) ^ 8=256:=by decide
  have p2:(2:Int) ^ 56=72057594037927936:=by decide
  rw[p1,p2,IntKind.wrap_u64,IntKind.wrap_u64]
  unfold rot at hr ⊢
  simp only[show(2:Nat) ^ 8=256 from by decide,show(2:Nat) ^ (64 - 8)=72057594037927936 from by decide,show(2:Nat) ^ 64=18446744073709551616 from by decide] at hr ⊢
  omega
theorem rlq5_14 (x:Nat) (hx:x<18446744073709551616):rl64 (x:Int) (-14)=((rot 64 14 x:Nat):Int):=by
  have e1:min (Int.toNat (bits .and .u64 (IntKind.u64.wrap (-14)) 63)) 64=50:=by kernel_rfl
  have e2:min (Int.toNat (IntKind.u64.wrap (64 - bits .and .u64 (IntKind.u64.wrap (-14)) 63))) 64=14:=by kernel_rfl
  unfold rl64
  rw[e1,e2]
  have f1:IntKind.u64.wrap ((x:Int)*2 ^ 50)=((x*2 ^ (64 - 14)%2 ^ 64:Nat):Int):=by
    rw[IntKind.wrap_u64];simp
  have f2:(x:Int) / 2 ^ 14=((x / 2 ^ 14:Nat):Int):=by simp
  rw[f1,f2,o64 _ _ (by have:=Nat.mod_lt (x*2 ^ (64 - 14)) (Nat.two_pow_pos 64);omega) (by have:=Nat.div_le_self x (2 ^ 14);omega),rot_or (by decide) (by omega)]
theorem rgq5_14 (x:Nat) (hx:x<18446744073709551616):rg5 (x:Int) 14=((rot 64 14 x:Nat):Int):=by
  have e1:min (Int.toNat (14:Int)) 64=14:=by decide
  have e2:min (Int.toNat (IntKind.i64.wrap (64 - (14:Int)))) 64=50:=by kernel_rfl
  have hr:=rot_lt (b:=64) (n:=14) (x:=x) (by decide) (by omega)
  unfold rg5
  rw[e1,e2,cut5 _ (by rw[IntKind.wrap_u64];omega)]
  have p1:(2:Int) ^ 14=16384:=by decide
  have p2:(2:Int) ^ 50=1125899906842624:=by decide
  rw[p1,p2,IntKind.wrap_u64,IntKind.wrap_u64]
  unfold rot at hr ⊢
  simp only[show(2:Nat) ^ 14=16384 from by decide,show(2:Nat) ^ (64 - 14)=1125899906842624 from by decide,show(2:Nat) ^ 64=18446744073709551616 from by decide] at hr ⊢
  omega
theorem rlq5_18 (x:Nat) (hx:x<18446744073709551616):rl64 (x:Int) (-18)=((rot 64 18 x:Nat):Int):=by
  have e1:min (Int.toNat (bits .and .u64 (IntKind.u64.wrap (-18)) 63)) 64=46:=by kernel_rfl
  have e2:min (Int.toNat (IntKind.u64.wrap (64 - bits .and .u64 (IntKind.u64.wrap (-18)) 63))) 64=18:=by kernel_rfl
  unfold rl64
  rw[e1,e2]
  have f1:IntKind.u64.wrap ((x:Int)*2 ^ 46)=((x*2 ^ (64 - 18)%2 ^ 64:Nat):Int):=by
    rw[IntKind.wrap_u64];simp
  have f2:(x:Int) / 2 ^ 18=((x / 2 ^ 18:Nat):Int):=by simp
  rw[f1,f2,o64 _ _ (by have:=Nat.mod_lt (x*2 ^ (64 - 18)) (Nat.two_pow_pos 64);omega) (by have:=Nat.div_le_self x (2 ^ 18);omega),rot_or (by decide) (by omega)]
theorem rgq5_18 (x:Nat) (hx:x<18446744073709551616):rg5 (x:Int) 18=((rot 64 18 x:Nat):Int):=by
  have e1:min (Int.toNat (18:Int)) 64=18:=by decide
  have e2:min (Int.toNat (IntKind.i64.wrap (64 - (18:Int)))) 64=46:=by kernel_rfl
  have hr:=rot_lt (b:=64) (n:=18) (x:=x) (by decide) (by omega)
  unfold rg5
  rw[e1,e2,cut5 _ (by rw[IntKind.wrap_u64];omega)]
  have p1:(2:Int) ^ 18=262144:=by decide
  have p2:(2:Int) ^ 46=70368744177664:=by decide
  rw[p1,p2,IntKind.wrap_u64,IntKind.wrap_u64]
  unfold rot at hr ⊢
  simp only[show(2:Nat) ^ 18=262144 from by decide,show(2:Nat) ^ (64 - 18)=70368744177664 from by decide,show(2:Nat) ^ 64=18446744073709551616 from by decide] at hr ⊢
  omega
theorem rlq5_19 (x:Nat) (hx:x<18446744073709551616):rl64 (x:Int) (-19)=((rot 64 19 x:Nat):Int):=by
  have e1:min (Int.toNat (bits .and .u64 (IntKind.u64.wrap (-19)) 63)) 64=45:=by kernel_rfl
  have e2:min (Int.toNat (IntKind.u64.wrap (64 - bits .and .u64 (IntKind.u64.wrap (-19)) 63))) 64=19:=by kernel_rfl
  unfold rl64
  rw[e1,e2]
  have f1:IntKind.u64.wrap ((x:Int)*2 ^ 45)=((x*2 ^ (64 - 19)%2 ^ 64:Nat):Int):=by
    rw[IntKind.wrap_u64];simp
  have f2:(x:Int) / 2 ^ 19=((x / 2 ^ 19:Nat):Int):=by simp
  rw[f1,f2,o64 _ _ (by have:=Nat.mod_lt (x*2 ^ (64 - 19)) (Nat.two_pow_pos 64);omega) (by have:=Nat.div_le_self x (2 ^ 19);omega),rot_or (by decide) (by omega)]
theorem rgq5_19 (x:Nat) (hx:x<18446744073709551616):rg5 (x:Int) 19=((rot 64 19 x:Nat):Int):=by
  have e1:min (Int.toNat (19:Int)) 64=19:=by decide
  have e2:min (Int.toNat (IntKind.i64.wrap (64 - (19:Int)))) 64=45:=by kernel_rfl
  have hr:=rot_lt (b:=64) (n:=19) (x:=x) (by decide) (by omega)
  unfold rg5
  rw[e1,e2,cut5 _ (by rw[IntKind.wrap_u64];omega)]
  have p1:(2:Int) ^ 19=524288:=by decide
  have p2:(2:Int) ^ 45=35184372088832:=by decide
  rw[p1,p2,IntKind.wrap_u64,IntKind.wrap_u64]
  unfold rot at hr ⊢
  simp only[show(2:Nat) ^ 19=524288 from by decide,show(2:Nat) ^ (64 - 19)=35184372088832 from by decide,show(2:Nat) ^ 64=18446744073709551616 from by decide] at hr ⊢
  omega
theorem rlq5_28 (x:Nat) (hx:x<18446744073709551616):rl64 (x:Int) (-28)=((rot 64 28 x:Nat):Int):=by
  have e1:min (Int.toNat (bits .and .u64 (IntKind.u64.wrap (-28)) 63)) 64=36:=by kernel_rfl
  have e2:min (Int.toNat (IntKind.u64.wrap (64 - bits .and .u64 (IntKind.u64.wrap (-28)) 63))) 64=28:=by kernel_rfl
  unfold rl64
  rw[e1,e2]
  have f1:IntKind.u64.wrap ((x:Int)*2 ^ 36)=((x*2 ^ (64 - 28)%2 ^ 64:Nat):Int):=by
    rw[IntKind.wrap_u64];simp
  have f2:(x:Int) / 2 ^ 28=((x / 2 ^ 28:Nat):Int):=by simp
  rw[f1,f2,o64 _ _ (by have:=Nat.mod_lt (x*2 ^ (64 - 28)) (Nat.two_pow_pos 64);omega) (by have:=Nat.div_le_self x (2 ^ 28);omega),rot_or (by decide) (by omega)]
theorem rgq5_28 (x:Nat) (hx:x<18446744073709551616):rg5 (x:Int) 28=((rot 64 28 x:Nat):Int):=by
  have e1:min (Int.toNat (28:Int)) 64=28:=by decide
  have e2:min (Int.toNat (IntKind.i64.wrap (64 - (28:Int)))) 64=36:=by kernel_rfl
  have hr:=rot_lt (b:=64) (n:=28) (x:=x) (by decide) (by omega)
  unfold rg5
  rw[e1,e2,cut5 _ (by rw[IntKind.wrap_u64];omega)]
  have p1:(2:Int) ^ 28=268435456:=by decide
  have p2:(2:Int) ^ 36=68719476736:=by decide
  rw[p1,p2,IntKind.wrap_u64,IntKind.wrap_u64]
  unfold rot at hr ⊢
  simp only[show(2:Nat) ^ 28=268435456 from by decide,show(2:Nat) ^ (64 - 28)=68719476736 from by decide,show(2:Nat) ^ 64=18446744073709551616 from by decide] at hr ⊢
  omega
theorem rlq5_34 (x:Nat) (hx:x<18446744073709551616):rl64 (x:Int) (-34)=((rot 64 34 x:Nat):Int):=by
  have e1:min (Int.toNat (bits .and .u64 (IntKind.u64.wrap (-34)) 63)) 64=30:=by kernel_rfl
  have e2:min (Int.toNat (IntKind.u64.wrap (64 - bits .and .u64 (IntKind.u64.wrap (-34)) 63))) 64=34:=by kernel_rfl
  unfold rl64
  rw[e1,e2]
  have f1:IntKind.u64.wrap ((x:Int)*2 ^ 30)=((x*2 ^ (64 - 34)%2 ^ 64:Nat):Int):=by
    rw[IntKind.wrap_u64];simp
  have f2:(x:Int) / 2 ^ 34=((x / 2 ^ 34:Nat):Int):=by simp
  rw[f1,f2,o64 _ _ (by have:=Nat.mod_lt (x*2 ^ (64 - 34)) (Nat.two_pow_pos 64);omega) (by have:=Nat.div_le_self x (2 ^ 34);omega),rot_or (by decide) (by omega)]
theorem rgq5_34 (x:Nat) (hx:x<18446744073709551616):rg5 (x:Int) 34=((rot 64 34 x:Nat):Int):=by
  have e1:min (Int.toNat (34:Int)) 64=34:=by decide
  have e2:min (Int.toNat (IntKind.i64.wrap (64 - (34:Int)))) 64=30:=by kernel_rfl
  have hr:=rot_lt (b:=64) (n:=34) (x:=x) (by decide) (by omega)
  unfold rg5
  rw[e1,e2,cut5 _ (by rw[IntKind.wrap_u64];omega)]
  have p1:(2:Int) ^ 34=17179869184:=by decide
  have p2:(2:Int) ^ 30=1073741824:=by decide
  rw[p1,p2,IntKind.wrap_u64,IntKind.wrap_u64]
  unfold rot at hr ⊢
  simp only[show(2:Nat) ^ 34=17179869184 from by decide,show(2:Nat) ^ (64 - 34)=1073741824 from by decide,show(2:Nat) ^ 64=18446744073709551616 from by decide] at hr ⊢
  omega
theorem rlq5_39 (x:Nat) (hx:x<18446744073709551616):rl64 (x:Int) (-39)=((rot 64 39 x:Nat):Int):=by
  have e1:min (Int.toNat (bits .and .u64 (IntKind.u64.wrap (-39)) 63)) 64=25:=by kernel_rfl
  have e2:min (Int.toNat (IntKind.u64.wrap (64 - bits .and .u64 (IntKind.u64.wrap (-39)) 63))) 64=39:=by kernel_rfl
  unfold rl64
  rw[e1,e2]
  have f1:IntKind.u64.wrap ((x:Int)*2 ^ 25)=((x*2 ^ (64 - 39)%2 ^ 64:Nat):Int):=by
    rw[IntKind.wrap_u64];simp
  have f2:(x:Int) / 2 ^ 39=((x / 2 ^ 39:Nat):Int):=by simp
  rw[f1,f2,o64 _ _ (by have:=Nat.mod_lt (x*2 ^ (64 - 39)) (Nat.two_pow_pos 64);omega) (by have:=Nat.div_le_self x (2 ^ 39);omega),rot_or (by decide) (by omega)]
theorem rgq5_39 (x:Nat) (hx:x<18446744073709551616):rg5 (x:Int) 39=((rot 64 39 x:Nat):Int):=by
  have e1:min (Int.toNat (39:Int)) 64=39:=by decide
  have e2:min (Int.toNat (IntKind.i64.wrap (64 - (39:Int)))) 64=25:=by kernel_rfl
  have hr:=rot_lt (b:=64) (n:=39) (x:=x) (by decide) (by omega)
  unfold rg5
  rw[e1,e2,cut5 _ (by rw[IntKind.wrap_u64];omega)]
  have p1:(2:Int) ^ 39=549755813888:=by decide
  have p2:(2:Int) ^ 25=33554432:=by decide
  rw[p1,p2,IntKind.wrap_u64,IntKind.wrap_u64]
  unfold rot at hr ⊢
  simp only[show(2:Nat) ^ 39=549755813888 from by decide,show(2:Nat) ^ (64 - 39)=33554432 from by decide,show(2:Nat) ^ 64=18446744073709551616 from by decide] at hr ⊢
  omega
theorem rlq5_41 (x:Nat) (hx:x<18446744073709551616):rl64 (x:Int) (-41)=((rot 64 41 x:Nat):Int):=by
  have e1:min (Int.toNat (bits .and .u64 (IntKind.u64.wrap (-41)) 63)) 64=23:=by kernel_rfl
  have e2:min (Int.toNat (IntKind.u64.wrap (64 - bits .and .u64 (IntKind.u64.wrap (-41)) 63))) 64=41:=by kernel_rfl
  unfold rl64
  rw[e1,e2]
  have f1:IntKind.u64.wrap ((x:Int)*2 ^ 23)=((x*2 ^ (64 - 41)%2 ^ 64:Nat):Int):=by
    rw[IntKind.wrap_u64];simp
  have f2:(x:Int) / 2 ^ 41=((x / 2 ^ 41:Nat):Int):=by simp
  rw[f1,f2,o64 _ _ (by have:=Nat.mod_lt (x*2 ^ (64 - 41)) (Nat.two_pow_pos 64);omega) (by have:=Nat.div_le_self x (2 ^ 41);omega),rot_or (by decide) (by omega)]
theorem rgq5_41 (x:Nat) (hx:x<18446744073709551616):rg5 (x:Int) 41=((rot 64 41 x:Nat):Int):=by
  have e1:min (Int.toNat (41:Int)) 64=41:=by decide
  have e2:min (Int.toNat (IntKind.i64.wrap (64 - (41:Int)))) 64=23:=by kernel_rfl
  have hr:=rot_lt (b:=64) (n:=41) (x:=x) (by decide) (by omega)
  unfold rg5
  rw[e1,e2,cut5 _ (by rw[IntKind.wrap_u64];omega)]
  have p1:(2:Int) ^ 41=2199023255552:=by decide
  have p2:(2:Int) ^ 23=8388608:=by decide
  rw[p1,p2,IntKind.wrap_u64,IntKind.wrap_u64]
  unfold rot at hr ⊢
  simp only[show(2:Nat) ^ 41=2199023255552 from by decide,show(2:Nat) ^ (64 - 41)=8388608 from by decide,show(2:Nat) ^ 64=18446744073709551616 from by decide] at hr ⊢
  omega
theorem rlq5_61 (x:Nat) (hx:x<18446744073709551616):rl64 (x:Int) (-61)=((rot 64 61 x:Nat):Int):=by
  have e1:min (Int.toNat (bits .and .u64 (IntKind.u64.wrap (-61)) 63)) 64=3:=by kernel_rfl
  have e2:min (Int.toNat (IntKind.u64.wrap (64 - bits .and .u64 (IntKind.u64.wrap (-61)) 63))) 64=61:=by kernel_rfl
  unfold rl64
  rw[e1,e2]
  have f1:IntKind.u64.wrap ((x:Int)*2 ^ 3)=((x*2 ^ (64 - 61)%2 ^ 64:Nat):Int):=by
    rw[IntKind.wrap_u64];simp
  have f2:(x:Int) / 2 ^ 61=((x / 2 ^ 61:Nat):Int):=by simp
  rw[f1,f2,o64 _ _ (by have:=Nat.mod_lt (x*2 ^ (64 - 61)) (Nat.two_pow_pos 64);omega) (by have:=Nat.div_le_self x (2 ^ 61);omega),rot_or (by decide) (by omega)]
theorem rgq5_61 (x:Nat) (hx:x<18446744073709551616):rg5 (x:Int) 61=((rot 64 61 x:Nat):Int):=by
  have e1:min (Int.toNat (61:Int)) 64=61:=by decide
  have e2:min (Int.toNat (IntKind.i64.wrap (64 - (61:Int)))) 64=3:=by kernel_rfl
  have hr:=rot_lt (b:=64) (n:=61) (x:=x) (by decide) (by omega)
  unfold rg5
  rw[e1,e2,cut5 _ (by rw[IntKind.wrap_u64];omega)]
  have p1:(2:Int) ^ 61=2305843009213693952:=by decide
  have p2:(2:Int) ^ 3=8:=by decide
  rw[p1,p2,IntKind.wrap_u64,IntKind.wrap_u64]
  unfold rot at hr ⊢
  simp only[show(2:Nat) ^ 61=2305843009213693952 from by decide,show(2:Nat) ^ (64 - 61)=8 from by decide,show(2:Nat) ^ 64=18446744073709551616 from by decide] at hr ⊢
  omega
end Go.Proofs.YtcfnjcacdmkgbaaDoor

set_option linter.unusedSimpArgs false
set_option linter.unusedVariables false
/-! The document's rounds are the program's. -/
namespace Go.Proofs.YtcfnjcacdmkgbaaDoor
open Go.RowKit Go.Ev
theorem ch_bits (E G:Nat) (hG:G<4294967296):(18446744073709551615 ^^^ E) &&& G=(4294967295 ^^^ E) &&& G:=by
  apply Nat.eq_of_testBit_eq
  intro i
  rw[Nat.testBit_and,Nat.testBit_and,Nat.testBit_xor,Nat.testBit_xor,show 18446744073709551615=2 ^ 64 - 1 from rfl,show 4294967295=2 ^ 32 - 1 from rfl,Nat.testBit_two_pow_sub_one,Nat.testBit_two_pow_sub_one]
  by_cases h:i<32
  · rw[decide_eq_true (show i<64 by omega),decide_eq_true h]
  · have : G.testBit i = false := Nat.testBit_lt_two_pow (Nat.lt_of_lt_of_le (show G < 2 ^ 32 by omega) (Nat.pow_le_pow_right (by decide) (by omega)))
    rw[this,Bool.and_false,Bool.and_false]
abbrev W2 (x:Int):Prop:=0≤x∧x<4294967296
theorem W2.nat {x:Int} (h:W2 x):∃ m:Nat,m<4294967296∧x=(m:Int):=⟨x.toNat,by omega,by omega⟩
theorem mixq2_0 (x:Int) (h:W2 x):dmx2 0 x=gz2 x∧W2 (gz2 x):=by
  obtain⟨x,hx,rfl⟩:=h.nat
  have h0:=rot_lt (b:=32) (n:=2) (x:=x) (by decide) (by omega)
  have h1:=rot_lt (b:=32) (n:=13) (x:=x) (by decide) (by omega)
  have h2:=rot_lt (b:=32) (n:=22) (x:=x) (by decide) (by omega)
  have hx1:=Nat.xor_lt_two_pow (n:=32) (x:=rot 32 2 x) (y:=rot 32 13 x) (by omega) (by omega)
  have hx2:=Nat.xor_lt_two_pow (n:=32) (x:=rot 32 2 x ^^^ rot 32 13 x) (y:=rot 32 22 x) hx1 (by omega)
  have e1:dmx2 0 (x:Int)=((rot 32 2 x ^^^ rot 32 13 x ^^^ rot 32 22 x:Nat):Int):=by
    show bits .xor .u64 (bits .xor .u64 (rg2 (x:Int) 2) (rg2 (x:Int) 13)) (rg2 (x:Int) 22)=_
    rw[rgq2_2 x hx,rgq2_13 x hx,rgq2_22 x hx,x64 _ _ (by omega) (by omega),x64 _ _ (by omega) (by omega)]
  have e2:gz2 (x:Int)=((rot 32 2 x ^^^ rot 32 13 x ^^^ rot 32 22 x:Nat):Int):=by
    unfold gz2
    rw[rlq2_2 x hx,rlq2_13 x hx,rlq2_22 x hx,x32 _ _ (by omega) (by omega),x32 _ _ (by omega) (by omega)]
  rw[e1,e2]
  exact⟨rfl,by omega,by omega⟩
theorem mixq2_1 (x:Int) (h:W2 x):dmx2 1 x=go2 x∧W2 (go2 x):=by
  obtain⟨x,hx,rfl⟩:=h.nat
  have h0:=rot_lt (b:=32) (n:=6) (x:=x) (by decide) (by omega)
  have h1:=rot_lt (b:=32) (n:=11) (x:=x) (by decide) (by omega)
  have h2:=rot_lt (b:=32) (n:=25) (x:=x) (by decide) (by omega)
  have hx1:=Nat.xor_lt_two_pow (n:=32) (x:=rot 32 6 x) (y:=rot 32 11 x) (by omega) (by omega)
  have hx2:=Nat.xor_lt_two_pow (n:=32) (x:=rot 32 6 x ^^^ rot 32 11 x) (y:=rot 32 25 x) hx1 (by omega)
  have e1:dmx2 1 (x:Int)=((rot 32 6 x ^^^ rot 32 11 x ^^^ rot 32 25 x:Nat):Int):=by
    show bits .xor .u64 (bits .xor .u64 (rg2 (x:Int) 6) (rg2 (x:Int) 11)) (rg2 (x:Int) 25)=_
    rw[rgq2_6 x hx,rgq2_11 x hx,rgq2_25 x hx,x64 _ _ (by omega) (by omega),x64 _ _ (by omega) (by omega)]
  have e2:go2 (x:Int)=((rot 32 6 x ^^^ rot 32 11 x ^^^ rot 32 25 x:Nat):Int):=by
    unfold go2
    rw[rlq2_6 x hx,rlq2_11 x hx,rlq2_25 x hx,x32 _ _ (by omega) (by omega),x32 _ _ (by omega) (by omega)]
  rw[e1,e2]
  exact⟨rfl,by omega,by omega⟩
theorem mixq2_2 (x:Int) (h:W2 x):dmx2 2 x=sz2 x∧W2 (sz2 x):=by
  obtain⟨x,hx,rfl⟩:=h.nat
  have h0:=rot_lt (b:=32) (n:=7) (x:=x) (by decide) (by omega)
  have h1:=rot_lt (b:=32) (n:=18) (x:=x) (by decide) (by omega)
  have h2:=Nat.div_le_self x (2 ^ 3)
  have hx1:=Nat.xor_lt_two_pow (n:=32) (x:=rot 32 7 x) (y:=rot 32 18 x) (by omega) (by omega)
  have hx2:=Nat.xor_lt_two_pow (n:=32) (x:=rot 32 7 x ^^^ rot 32 18 x) (y:=x / 2 ^ 3) hx1 (by omega)
  have hd:(x:Int) / 2 ^ (3)=((x / 2 ^ 3:Nat):Int):=by simp
  have e1:dmx2 2 (x:Int)=((rot 32 7 x ^^^ rot 32 18 x ^^^ x / 2 ^ 3:Nat):Int):=by
    show bits .xor .u64 (bits .xor .u64 (rg2 (x:Int) 7) (rg2 (x:Int) 18)) ((x:Int) / 2 ^ (3))=_
    rw[rgq2_7 x hx,rgq2_18 x hx,hd,x64 _ _ (by omega) (by omega),x64 _ _ (by omega) (by omega)]
  have e2:sz2 (x:Int)=((rot 32 7 x ^^^ rot 32 18 x ^^^ x / 2 ^ 3:Nat):Int):=by
    unfold sz2
    rw[rlq2_7 x hx,rlq2_18 x hx,hd,x32 _ _ (by omega) (by omega),x32 _ _ (by omega) (by omega)]
  rw[e1,e2]
  exact⟨rfl,by omega,by omega⟩
theorem mixq2_3 (x:Int) (h:W2 x):dmx2 3 x=so2 x∧W2 (so2 x):=by
  obtain⟨x,hx,rfl⟩:=h.nat
  have h0:=rot_lt (b:=32) (n:=17) (x:=x) (by decide) (by omega)
  have h1:=rot_lt (b:=32) (n:=19) (x:=x) (by decide) (by omega)
  have h2:=Nat.div_le_self x (2 ^ 10)
  have hx1:=Nat.xor_lt_two_pow (n:=32) (x:=rot 32 17 x) (y:=rot 32 19 x) (by omega) (by omega)
  have hx2:=Nat.xor_lt_two_pow (n:=32) (x:=rot 32 17 x ^^^ rot 32 19 x) (y:=x / 2 ^ 10) hx1 (by omega)
  have hd:(x:Int) / 2 ^ (10)=((x / 2 ^ 10:Nat):Int):=by simp
  have e1:dmx2 3 (x:Int)=((rot 32 17 x ^^^ rot 32 19 x ^^^ x / 2 ^ 10:Nat):Int):=by
    show bits .xor .u64 (bits .xor .u64 (rg2 (x:Int) 17) (rg2 (x:Int) 19)) ((x:Int) / 2 ^ (10))=_
    rw[rgq2_17 x hx,rgq2_19 x hx,hd,x64 _ _ (by omega) (by omega),x64 _ _ (by omega) (by omega)]
  have e2:so2 (x:Int)=((rot 32 17 x ^^^ rot 32 19 x ^^^ x / 2 ^ 10:Nat):Int):=by
    unfold so2
    rw[rlq2_17 x hx,rlq2_19 x hx,hd,x32 _ _ (by omega) (by omega),x32 _ _ (by omega) (by omega)]
  rw[e1,e2]
  exact⟨rfl,by omega,by omega⟩
theorem chq2 (e f g:Int) (he:W2 e) (hf:W2 f) (hg:W2 g):cu2 (bits .xor .u64 (bits .and .u64 e f) (bits .and .u64 (bits .xor .u64 18446744073709551615 e) g))=bits .xor .u32 (bits .and .u32 e f) (bits .and .u32 (bits .xor .u32 4294967295 e) g)∧W2 (bits .xor .u32 (bits .and .u32 e f) (bits .and .u32 (bits .xor .u32 4294967295 e) g)):=by
  obtain⟨E,hE,rfl⟩:=he.nat
  obtain⟨F,hF,rfl⟩:=hf.nat
  obtain⟨G,hG,rfl⟩:=hg.nat
  have a1:=Nat.and_lt_two_pow (n:=32) E (y:=F) (by omega)
  have a2:=Nat.and_lt_two_pow (n:=32) (4294967295 ^^^ E) (y:=G) (by omega)
  have a3:=Nat.xor_lt_two_pow (n:=64) (x:=18446744073709551615) (y:=E) (by omega) (by omega)
  have a4:=Nat.xor_lt_two_pow (n:=32) (x:=4294967295) (y:=E) (by omega) (by omega)
  have a5:=Nat.xor_lt_two_pow (n:=32) (x:=E &&& F) (y:=(4294967295 ^^^ E) &&& G) a1 a2
  have e0:(18446744073709551615 ^^^ E) &&& G=(4294967295 ^^^ E) &&& G:=ch_bits E G (by omega)
  have e1:bits .xor .u64 18446744073709551615 (E:Int)=((18446744073709551615 ^^^ E:Nat):Int):=x64 18446744073709551615 E (by omega) (by omega)
  have e2:bits .xor .u32 4294967295 (E:Int)=((4294967295 ^^^ E:Nat):Int):=x32 4294967295 E (by omega) (by omega)
  rw[e1,e2,a64 _ _ (by omega) (by omega),a64 _ _ (by omega) (by omega),e0,x64 _ _ (by omega) (by omega),a32 _ _ (by omega) (by omega),a32 _ _ (by omega) (by omega),x32 _ _ (by omega) (by omega),cut2 _ (by omega)]
  exact⟨by omega,by omega,by omega⟩
theorem mjq2 (e f g:Int) (he:W2 e) (hf:W2 f) (hg:W2 g):bits .xor .u64 (bits .xor .u64 (bits .and .u64 e f) (bits .and .u64 e g)) (bits .and .u64 f g)=bits .xor .u32 (bits .xor .u32 (bits .and .u32 e f) (bits .and .u32 e g)) (bits .and .u32 f g)∧W2 (bits .xor .u32 (bits .xor .u32 (bits .and .u32 e f) (bits .and .u32 e g)) (bits .and .u32 f g)):=by
  obtain⟨E,hE,rfl⟩:=he.nat
  obtain⟨F,hF,rfl⟩:=hf.nat
  obtain⟨G,hG,rfl⟩:=hg.nat
  have a1:=Nat.and_lt_two_pow (n:=32) E (y:=F) (by omega)
  have a2:=Nat.and_lt_two_pow (n:=32) E (y:=G) (by omega)
  have a3:=Nat.and_lt_two_pow (n:=32) F (y:=G) (by omega)
  have a4:=Nat.xor_lt_two_pow (n:=32) (x:=E &&& F) (y:=E &&& G) a1 a2
  have a5:=Nat.xor_lt_two_pow (n:=32) (x:=E &&& F ^^^ E &&& G) (y:=F &&& G) a4 a3
  rw[a64 _ _ (by omega) (by omega),a64 _ _ (by omega) (by omega),a64 _ _ (by omega) (by omega),x64 _ _ (by omega) (by omega),x64 _ _ (by omega) (by omega),a32 _ _ (by omega) (by omega),a32 _ _ (by omega) (by omega),a32 _ _ (by omega) (by omega),x32 _ _ (by omega) (by omega),x32 _ _ (by omega) (by omega)]
  exact⟨rfl,by omega,by omega⟩
theorem wordq2 (Y:List Int) (i:Nat) (h:∀ q,W2 (Y.getD q 0)):xm2 Y i=mx2 Y i∧W2 (mx2 Y i):=by
  obtain⟨m1,r1⟩:=mixq2_3 _ (h (i - 2))
  obtain⟨m2,r2⟩:=mixq2_2 _ (h (i - 15))
  have r3:=h (i - 7)
  have r4:=h (i - 16)
  unfold xm2 mx2
  rw[m1,m2,cut2 _ (by rw[IntKind.wrap_u64];omega)]
  generalize so2 (Y.getD (i - 2) 0)=p1 at*
  generalize sz2 (Y.getD (i - 15) 0)=p2 at*
  generalize Y.getD (i - 7) 0=p3 at*
  generalize Y.getD (i - 16) 0=p4 at*
  simp only[IntKind.wrap_u64,IntKind.wrap_u32]
  exact⟨by omega,by omega,by omega⟩
structure WS2 (z:S8):Prop where
  a:W2 z.a
  b:W2 z.b
  c:W2 z.c
  d:W2 z.d
  e:W2 z.e
  f:W2 z.f
  g:W2 z.g
  h:W2 z.h
theorem constq2 (r:Nat) (hr:r<64):kL5.getD r 0 / 2 ^ (32)=kL2.getD r 0∧W2 (kL2.getD r 0):=by
  have h:∀ r:Fin 64,kL5.getD r.1 0 / 2 ^ (32)=kL2.getD r.1 0∧W2 (kL2.getD r.1 0):=by decide
  exact h ⟨r,hr⟩
theorem roundq2 (Y:List Int) (r:Nat) (hr:r<64) (z:S8) (hz:WS2 z) (hw:W2 (Y.getD r 0)):rdD2 Y r z=rnd2 (kL2.getD r 0) (Y.getD r 0) z∧WS2 (rnd2 (kL2.getD r 0) (Y.getD r 0) z):=by
  obtain⟨k1,k2⟩:=constq2 r hr
  obtain⟨m0,r0⟩:=mixq2_0 _ hz.a
  obtain⟨m1,r1⟩:=mixq2_1 _ hz.e
  obtain⟨c1,c2⟩:=chq2 _ _ _ hz.e hz.f hz.g
  obtain⟨j1,j2⟩:=mjq2 _ _ _ hz.a hz.b hz.c
  have hd:=hz.d
  have hh:=hz.h
  have et:Int.toNat (r:Int)=r:=Int.toNat_natCast r
  unfold rdD2 rnd2 t12 t22
  rw[et,k1,m0,m1,c1,j1,cut2 _ (by rw[IntKind.wrap_u64];omega),cut2 _ (by rw[IntKind.wrap_u64];omega)]
  generalize gz2 z.a=p0 at*
  generalize go2 z.e=p1 at*
  generalize bits .xor .u32 (bits .and .u32 z.e z.f) (bits .and .u32 (bits .xor .u32 4294967295 z.e) z.g)=p2 at*
  generalize bits .xor .u32 (bits .xor .u32 (bits .and .u32 z.a z.b) (bits .and .u32 z.a z.c)) (bits .and .u32 z.b z.c)=p3 at*
  generalize kL2.getD r 0=p4 at*
  generalize Y.getD r 0=p5 at*
  simp only[IntKind.wrap_u64,IntKind.wrap_u32]
  refine⟨?_,⟨by constructor<;>(dsimp only;omega),hz.a,hz.b,hz.c,by constructor<;>(dsimp only;omega),hz.e,hz.f,hz.g⟩⟩
  congr 1
  · omega
  · omega
theorem itq2 (Y:List Int) (hY:∀ q,W2 (Y.getD q 0)) (y:S8) (hy:WS2 y):∀ r,r≤64→itD2 Y y r=itr2 Y y r∧WS2 (itr2 Y y r)
  |0,_=>⟨rfl,hy⟩
  | r + 1, h => by
    obtain⟨h1,h2⟩:=itq2 Y hY y hy r (by omega)
    obtain⟨h3,h4⟩:=roundq2 Y r (by omega) _ h2 (hY r)
    exact⟨by rw[itD2,itr2,h1,h3],h4⟩
theorem addq2 (S:List Int) (z:S8) (hS:WS2 (toS S)) (hz:WS2 z):adD2 (toS S) z=toS (add2 S z)∧WS2 (toS (add2 S z)):=by
  obtain⟨a1,a2,a3,a4,a5,a6,a7,a8⟩:=hS
  obtain⟨b1,b2,b3,b4,b5,b6,b7,b8⟩:=hz
  simp only[toS] at a1 a2 a3 a4 a5 a6 a7 a8
  unfold adD2
  simp only[toS,add2,List.getD_cons_zero,List.getD_cons_succ]
  rw[cut2 _ (by rw[IntKind.wrap_u64];omega),cut2 _ (by rw[IntKind.wrap_u64];omega),cut2 _ (by rw[IntKind.wrap_u64];omega),cut2 _ (by rw[IntKind.wrap_u64];omega),cut2 _ (by rw[IntKind.wrap_u64];omega),cut2 _ (by rw[IntKind.wrap_u64];omega),cut2 _ (by rw[IntKind.wrap_u64];omega),cut2 _ (by rw[IntKind.wrap_u64];omega)]
  simp only[IntKind.wrap_u64,IntKind.wrap_u32]
  refine⟨?_,by constructor<;>(constructor<;>(dsimp only;omega))⟩
  congr 1<;>omega
theorem spq2 (A : List Int) (p : Nat) (b : Nat → Int) (hb : ∀ i, i < 16 → xw2 A p i = b i ∧ W2 (b i)) : ∀ i, spD2 A p i = spL2 b i ∧ ∀ q, W2 ((spL2 b i).getD q 0)
  |0=>⟨rfl,fun q=>by simp only[spL2,List.getD_nil];exact⟨by decide,by decide⟩⟩
  | i + 1 => by
    obtain⟨h1,h2⟩:=spq2 A p b hb i
    obtain⟨w1,w2⟩:=wordq2 _ i h2
    have e:(if i<16 then xw2 A p i else xm2 (spL2 b i) i)=(if i<16 then b i else mx2 (spL2 b i) i):=by
      split
      · rename_i h;exact(hb i h).1
      · exact w1
    have hw:W2 (if i<16 then b i else mx2 (spL2 b i) i):=by
      split
      · rename_i h;exact(hb i h).2
      · exact w2
    refine⟨by rw[spD2,spL2,h1,e],fun q=> ?_⟩
    rw[spL2]
    rw[List.getD_eq_getElem?_getD,List.getElem?_append]
    split
    · have := h2 q
      rwa[List.getD_eq_getElem?_getD] at this
    · rw [spL2_len]
      by_cases h:q - i=0
      · rw[h];exact hw
      · rw [List.getElem?_eq_none (by simp; omega)]
        exact⟨by decide,by decide⟩
theorem blockq2 (A:List Int) (p:Nat) (b:Nat→Int) (hb:∀ i,i<16→xw2 A p i=b i∧W2 (b i)) (S:List Int) (hS:WS2 (toS S)):adD2 (toS S) (itD2 (spD2 A p 64) (toS S) 64)=toS (bhd2 S b)∧WS2 (toS (bhd2 S b)):=by
  obtain⟨h1,h2⟩:=spq2 A p b hb 64
  obtain⟨h3,h4⟩:=itq2 _ h2 (toS S) hS 64 (Nat.le_refl _)
  obtain⟨h5,h6⟩:=addq2 S _ hS h4
  unfold bhd2
  rw[h1,h3]
  exact⟨h5,h6⟩
abbrev W5 (x:Int):Prop:=0≤x∧x<18446744073709551616
theorem W5.nat {x:Int} (h:W5 x):∃ m:Nat,m<18446744073709551616∧x=(m:Int):=⟨x.toNat,by omega,by omega⟩
theorem mixq5_0 (x:Int) (h:W5 x):dmx5 0 x=gz5 x∧W5 (gz5 x):=by
  obtain⟨x,hx,rfl⟩:=h.nat
  have h0:=rot_lt (b:=64) (n:=28) (x:=x) (by decide) (by omega)
  have h1:=rot_lt (b:=64) (n:=34) (x:=x) (by decide) (by omega)
  have h2:=rot_lt (b:=64) (n:=39) (x:=x) (by decide) (by omega)
  have hx1:=Nat.xor_lt_two_pow (n:=64) (x:=rot 64 28 x) (y:=rot 64 34 x) (by omega) (by omega)
  have hx2:=Nat.xor_lt_two_pow (n:=64) (x:=rot 64 28 x ^^^ rot 64 34 x) (y:=rot 64 39 x) hx1 (by omega)
  have e1:dmx5 0 (x:Int)=((rot 64 28 x ^^^ rot 64 34 x ^^^ rot 64 39 x:Nat):Int):=by
    show bits .xor .u64 (bits .xor .u64 (rg5 (x:Int) 28) (rg5 (x:Int) 34)) (rg5 (x:Int) 39)=_
    rw[rgq5_28 x hx,rgq5_34 x hx,rgq5_39 x hx,x64 _ _ (by omega) (by omega),x64 _ _ (by omega) (by omega)]
  have e2:gz5 (x:Int)=((rot 64 28 x ^^^ rot 64 34 x ^^^ rot 64 39 x:Nat):Int):=by
    unfold gz5
    rw[rlq5_28 x hx,rlq5_34 x hx,rlq5_39 x hx,x64 _ _ (by omega) (by omega),x64 _ _ (by omega) (by omega)]
  rw[e1,e2]
  exact⟨rfl,by omega,by omega⟩
theorem mixq5_1 (x:Int) (h:W5 x):dmx5 1 x=go5 x∧W5 (go5 x):=by
  obtain⟨x,hx,rfl⟩:=h.nat
  have h0:=rot_lt (b:=64) (n:=14) (x:=x) (by decide) (by omega)
  have h1:=rot_lt (b:=64) (n:=18) (x:=x) (by decide) (by omega)
  have h2:=rot_lt (b:=64) (n:=41) (x:=x) (by decide) (by omega)
  have hx1:=Nat.xor_lt_two_pow (n:=64) (x:=rot 64 14 x) (y:=rot 64 18 x) (by omega) (by omega)
  have hx2:=Nat.xor_lt_two_pow (n:=64) (x:=rot 64 14 x ^^^ rot 64 18 x) (y:=rot 64 41 x) hx1 (by omega)
  have e1:dmx5 1 (x:Int)=((rot 64 14 x ^^^ rot 64 18 x ^^^ rot 64 41 x:Nat):Int):=by
    show bits .xor .u64 (bits .xor .u64 (rg5 (x:Int) 14) (rg5 (x:Int) 18)) (rg5 (x:Int) 41)=_
    rw[rgq5_14 x hx,rgq5_18 x hx,rgq5_41 x hx,x64 _ _ (by omega) (by omega),x64 _ _ (by omega) (by omega)]
  have e2:go5 (x:Int)=((rot 64 14 x ^^^ rot 64 18 x ^^^ rot 64 41 x:Nat):Int):=by
    unfold go5
    rw[rlq5_14 x hx,rlq5_18 x hx,rlq5_41 x hx,x64 _ _ (by omega) (by omega),x64 _ _ (by omega) (by omega)]
  rw[e1,e2]
  exact⟨rfl,by omega,by omega⟩
theorem mixq5_2 (x:Int) (h:W5 x):dmx5 2 x=sz5 x∧W5 (sz5 x):=by
  obtain⟨x,hx,rfl⟩:=h.nat
  have h0:=rot_lt (b:=64) (n:=1) (x:=x) (by decide) (by omega)
  have h1:=rot_lt (b:=64) (n:=8) (x:=x) (by decide) (by omega)
  have h2:=Nat.div_le_self x (2 ^ 7)
  have hx1:=Nat.xor_lt_two_pow (n:=64) (x:=rot 64 1 x) (y:=rot 64 8 x) (by omega) (by omega)
  have hx2:=Nat.xor_lt_two_pow (n:=64) (x:=rot 64 1 x ^^^ rot 64 8 x) (y:=x / 2 ^ 7) hx1 (by omega)
  have hd:(x:Int) / 2 ^ (7)=((x / 2 ^ 7:Nat):Int):=by simp
  have e1:dmx5 2 (x:Int)=((rot 64 1 x ^^^ rot 64 8 x ^^^ x / 2 ^ 7:Nat):Int):=by
    show bits .xor .u64 (bits .xor .u64 (rg5 (x:Int) 1) (rg5 (x:Int) 8)) ((x:Int) / 2 ^ (7))=_
    rw[rgq5_1 x hx,rgq5_8 x hx,hd,x64 _ _ (by omega) (by omega),x64 _ _ (by omega) (by omega)]
  have e2:sz5 (x:Int)=((rot 64 1 x ^^^ rot 64 8 x ^^^ x / 2 ^ 7:Nat):Int):=by
    unfold sz5
    rw[rlq5_1 x hx,rlq5_8 x hx,hd,x64 _ _ (by omega) (by omega),x64 _ _ (by omega) (by omega)]
  rw[e1,e2]
  exact⟨rfl,by omega,by omega⟩
theorem mixq5_3 (x:Int) (h:W5 x):dmx5 3 x=so5 x∧W5 (so5 x):=by
  obtain⟨x,hx,rfl⟩:=h.nat
  have h0:=rot_lt (b:=64) (n:=19) (x:=x) (by decide) (by omega)
  have h1:=rot_lt (b:=64) (n:=61) (x:=x) (by decide) (by omega)
  have h2:=Nat.div_le_self x (2 ^ 6)
  have hx1:=Nat.xor_lt_two_pow (n:=64) (x:=rot 64 19 x) (y:=rot 64 61 x) (by omega) (by omega)
  have hx2:=Nat.xor_lt_two_pow (n:=64) (x:=rot 64 19 x ^^^ rot 64 61 x) (y:=x / 2 ^ 6) hx1 (by omega)
  have hd:(x:Int) / 2 ^ (6)=((x / 2 ^ 6:Nat):Int):=by simp
  have e1:dmx5 3 (x:Int)=((rot 64 19 x ^^^ rot 64 61 x ^^^ x / 2 ^ 6:Nat):Int):=by
    show bits .xor .u64 (bits .xor .u64 (rg5 (x:Int) 19) (rg5 (x:Int) 61)) ((x:Int) / 2 ^ (6))=_
    rw[rgq5_19 x hx,rgq5_61 x hx,hd,x64 _ _ (by omega) (by omega),x64 _ _ (by omega) (by omega)]
  have e2:so5 (x:Int)=((rot 64 19 x ^^^ rot 64 61 x ^^^ x / 2 ^ 6:Nat):Int):=by
    unfold so5
    rw[rlq5_19 x hx,rlq5_61 x hx,hd,x64 _ _ (by omega) (by omega),x64 _ _ (by omega) (by omega)]
  rw[e1,e2]
  exact⟨rfl,by omega,by omega⟩
theorem chq5 (e f g:Int) (he:W5 e) (hf:W5 f) (hg:W5 g):cu5 (bits .xor .u64 (bits .and .u64 e f) (bits .and .u64 (bits .xor .u64 18446744073709551615 e) g))=bits .xor .u64 (bits .and .u64 e f) (bits .and .u64 (bits .xor .u64 18446744073709551615 e) g)∧W5 (bits .xor .u64 (bits .and .u64 e f) (bits .and .u64 (bits .xor .u64 18446744073709551615 e) g)):=by
  rw[cut5 _ (bits_lo_u64 _ _ _)]
  have h0:=bits_lo_u64 .xor (bits .and .u64 e f) (bits .and .u64 (bits .xor .u64 18446744073709551615 e) g)
  have h1:=bits_hi_u64 .xor (bits .and .u64 e f) (bits .and .u64 (bits .xor .u64 18446744073709551615 e) g)
  exact⟨by omega,by omega,by omega⟩
theorem mjq5 (e f g:Int) (he:W5 e) (hf:W5 f) (hg:W5 g):bits .xor .u64 (bits .xor .u64 (bits .and .u64 e f) (bits .and .u64 e g)) (bits .and .u64 f g)=bits .xor .u64 (bits .xor .u64 (bits .and .u64 e f) (bits .and .u64 e g)) (bits .and .u64 f g)∧W5 (bits .xor .u64 (bits .xor .u64 (bits .and .u64 e f) (bits .and .u64 e g)) (bits .and .u64 f g)):=by
  have h0:=bits_lo_u64 .xor (bits .xor .u64 (bits .and .u64 e f) (bits .and .u64 e g)) (bits .and .u64 f g)
  have h1:=bits_hi_u64 .xor (bits .xor .u64 (bits .and .u64 e f) (bits .and .u64 e g)) (bits .and .u64 f g)
  exact⟨rfl,by omega,by omega⟩
theorem wordq5 (Y:List Int) (i:Nat) (h:∀ q,W5 (Y.getD q 0)):xm5 Y i=mx5 Y i∧W5 (mx5 Y i):=by
  obtain⟨m1,r1⟩:=mixq5_3 _ (h (i - 2))
  obtain⟨m2,r2⟩:=mixq5_2 _ (h (i - 15))
  have r3:=h (i - 7)
  have r4:=h (i - 16)
  unfold xm5 mx5
  rw[m1,m2,cut5 _ (by rw[IntKind.wrap_u64];omega)]
  generalize so5 (Y.getD (i - 2) 0)=p1 at*
  generalize sz5 (Y.getD (i - 15) 0)=p2 at*
  generalize Y.getD (i - 7) 0=p3 at*
  generalize Y.getD (i - 16) 0=p4 at*
  simp only[IntKind.wrap_u64,IntKind.wrap_u64]
  exact⟨by omega,by omega,by omega⟩
structure WS5 (z:S8):Prop where
  a:W5 z.a
  b:W5 z.b
  c:W5 z.c
  d:W5 z.d
  e:W5 z.e
  f:W5 z.f
  g:W5 z.g
  h:W5 z.h
theorem constq5 (r:Nat) (hr:r<80):kL5.getD r 0 / 2 ^ (0)=kL5.getD r 0∧W5 (kL5.getD r 0):=by
  have h:∀ r:Fin 80,kL5.getD r.1 0 / 2 ^ (0)=kL5.getD r.1 0∧W5 (kL5.getD r.1 0):=by decide
  exact h ⟨r,hr⟩
theorem roundq5 (Y:List Int) (r:Nat) (hr:r<80) (z:S8) (hz:WS5 z) (hw:W5 (Y.getD r 0)):rdD5 Y r z=rnd5 (kL5.getD r 0) (Y.getD r 0) z∧WS5 (rnd5 (kL5.getD r 0) (Y.getD r 0) z):=by
  obtain⟨k1,k2⟩:=constq5 r hr
  obtain⟨m0,r0⟩:=mixq5_0 _ hz.a
  obtain⟨m1,r1⟩:=mixq5_1 _ hz.e
  obtain⟨c1,c2⟩:=chq5 _ _ _ hz.e hz.f hz.g
  obtain⟨j1,j2⟩:=mjq5 _ _ _ hz.a hz.b hz.c
  have hd:=hz.d
  have hh:=hz.h
  have et:Int.toNat (r:Int)=r:=Int.toNat_natCast r
  unfold rdD5 rnd5 t15 t25
  rw[et,k1,m0,m1,c1,j1,cut5 _ (by rw[IntKind.wrap_u64];omega),cut5 _ (by rw[IntKind.wrap_u64];omega)]
  generalize gz5 z.a=p0 at*
  generalize go5 z.e=p1 at*
  generalize bits .xor .u64 (bits .and .u64 z.e z.f) (bits .and .u64 (bits .xor .u64 18446744073709551615 z.e) z.g)=p2 at*
  generalize bits .xor .u64 (bits .xor .u64 (bits .and .u64 z.a z.b) (bits .and .u64 z.a z.c)) (bits .and .u64 z.b z.c)=p3 at*
  generalize kL5.getD r 0=p4 at*
  generalize Y.getD r 0=p5 at*
  simp only[IntKind.wrap_u64,IntKind.wrap_u64]
  refine⟨?_,⟨by constructor<;>(dsimp only;omega),hz.a,hz.b,hz.c,by constructor<;>(dsimp only;omega),hz.e,hz.f,hz.g⟩⟩
  congr 1
  · omega
  · omega
theorem itq5 (Y:List Int) (hY:∀ q,W5 (Y.getD q 0)) (y:S8) (hy:WS5 y):∀ r,r≤80→itD5 Y y r=itr5 Y y r∧WS5 (itr5 Y y r)
  |0,_=>⟨rfl,hy⟩
  | r + 1, h => by
    obtain⟨h1,h2⟩:=itq5 Y hY y hy r (by omega)
    obtain⟨h3,h4⟩:=roundq5 Y r (by omega) _ h2 (hY r)
    exact⟨by rw[itD5,itr5,h1,h3],h4⟩
theorem addq5 (S:List Int) (z:S8) (hS:WS5 (toS S)) (hz:WS5 z):adD5 (toS S) z=toS (add5 S z)∧WS5 (toS (add5 S z)):=by
  obtain⟨a1,a2,a3,a4,a5,a6,a7,a8⟩:=hS
  obtain⟨b1,b2,b3,b4,b5,b6,b7,b8⟩:=hz
  simp only[toS] at a1 a2 a3 a4 a5 a6 a7 a8
  unfold adD5
  simp only[toS,add5,List.getD_cons_zero,List.getD_cons_succ]
  rw[cut5 _ (by rw[IntKind.wrap_u64];omega),cut5 _ (by rw[IntKind.wrap_u64];omega),cut5 _ (by rw[IntKind.wrap_u64];omega),cut5 _ (by rw[IntKind.wrap_u64];omega),cut5 _ (by rw[IntKind.wrap_u64];omega),cut5 _ (by rw[IntKind.wrap_u64];omega),cut5 _ (by rw[IntKind.wrap_u64];omega),cut5 _ (by rw[IntKind.wrap_u64];omega)]
  simp only[IntKind.wrap_u64,IntKind.wrap_u64]
  refine⟨?_,by constructor<;>(constructor<;>(dsimp only;omega))⟩
  congr 1<;>omega
theorem spq5 (A : List Int) (p : Nat) (b : Nat → Int) (hb : ∀ i, i < 16 → xw5 A p i = b i ∧ W5 (b i)) : ∀ i, spD5 A p i = spL5 b i ∧ ∀ q, W5 ((spL5 b i).getD q 0)
  |0=>⟨rfl,fun q=>by simp only[spL5,List.getD_nil];exact⟨by decide,by decide⟩⟩
  | i + 1 => by
    obtain⟨h1,h2⟩:=spq5 A p b hb i
    obtain⟨w1,w2⟩:=wordq5 _ i h2
    have e:(if i<16 then xw5 A p i else xm5 (spL5 b i) i)=(if i<16 then b i else mx5 (spL5 b i) i):=by
      split
      · rename_i h;exact(hb i h).1
      · exact w1
    have hw:W5 (if i<16 then b i else mx5 (spL5 b i) i):=by
      split
      · rename_i h;exact(hb i h).2
      · exact w2
    refine⟨by rw[spD5,spL5,h1,e],fun q=> ?_⟩
    rw[spL5]
    rw[List.getD_eq_getElem?_getD,List.getElem?_append]
    split
    · have := h2 q
      rwa[List.getD_eq_getElem?_getD] at this
    · rw [spL5_len]
      by_cases h:q - i=0
      · rw[h];exact hw
      · rw [List.getElem?_eq_none (by simp; omega)]
        exact⟨by decide,by decide⟩
theorem blockq5 (A:List Int) (p:Nat) (b:Nat→Int) (hb:∀ i,i<16→xw5 A p i=b i∧W5 (b i)) (S:List Int) (hS:WS5 (toS S)):adD5 (toS S) (itD5 (spD5 A p 80) (toS S) 80)=toS (bhd5 S b)∧WS5 (toS (bhd5 S b)):=by
  obtain⟨h1,h2⟩:=spq5 A p b hb 80
  obtain⟨h3,h4⟩:=itq5 _ h2 (toS S) hS 80 (Nat.le_refl _)
  obtain⟨h5,h6⟩:=addq5 S _ hS h4
  unfold bhd5
  rw[h1,h3]
  exact⟨h5,h6⟩
end Go.Proofs.YtcfnjcacdmkgbaaDoor
