import Derived.Test.YtcfnjcacdmkgbaaDoorZMEndsEdEAll
import Derived.Test.YtcfnjcacdmkgbaaDoorZMEndsEvAll
set_option linter.unusedSimpArgs false
set_option linter.unusedVariables false
/-! SHA-2: words, turns, the four sums of a word. -/
namespace Go.Proofs.YtcfnjcacdmkgbaaDoor
open Go.RowKit Go.Ev
variable {c0:Prop} {ch0:List (Option Value)}
section
variable {P:Program} {f:FuncId} {fn:Func} (hf:P.funcs[f]? =some fn) (hn:(fn.name == "runtime.NumGoroutine")=false) (hb:fn.body.isNone=false)
def ent2N (F : Int → Int → Value) {k k' : IntKind} (h : ∀ x y, Pure P f #[.int k x, .int k' y] (F x y)) : Entry P where
  f:=f
  g:=fun _ xs=>match xs with| [.int j x,.int j' y]=>some (F x y,j=k∧j'=k')|_=>none
  ok := fun _ xs u c e hc w β _ _ => by
    split at e
    · simp only [Option.some.injEq, Prod.mk.injEq] at e
      obtain⟨rfl,rfl⟩:=e
      obtain⟨rfl,rfl⟩:=hc
      exact h _ _ w
    · cases e
  call:=call_of hf hn hb
end
abbrev Tq:Type:=TypeId×(Nat×Nat)
def tab0:List (Entry Tryd.prog):= []
theorem wrap64_nn (n:Int):0≤IntKind.u64.wrap n:=by
  rw[IntKind.wrap_u64];exact Int.emod_nonneg _ (by decide)
theorem bits64_nn (op:BinOp) (a b:Int):0≤bits op .u64 a b:=by
  unfold bits;exact wrap64_nn _
def ro2_h (i:Nat):Hn:=⟨0,[],[],[],[]⟩
theorem ro2_0 (x k:Int):evF (yty.en tab0) ro2_h Tryd.f59 [.int .u32 x,.int .i64 k] []=some (.int .u32 (bits .or .u32 (IntKind.u32.wrap (x*2 ^ (min (Int.toNat (bits .and .u64 (IntKind.u64.wrap k) 31)) 32))) (x / 2 ^ (min (Int.toNat (IntKind.u64.wrap (32 - (bits .and .u64 (IntKind.u64.wrap k) 31)))) 32))),((((((((((((((True∧True)∧True)∧True)∧True)∧True)∧True)∧True)∧(0≤(bits .and .u64 (IntKind.u64.wrap k) 31)))∧True)∧True)∧True)∧(0≤(IntKind.u64.wrap (32 - (bits .and .u64 (IntKind.u64.wrap k) 31)))))∧True)∧True)):=by kernel_rfl
def ro2_F (x k:Int):Value:= .int .u32 (bits .or .u32 (IntKind.u32.wrap (x*2 ^ (min (Int.toNat (bits .and .u64 (IntKind.u64.wrap k) 31)) 32))) (x / 2 ^ (min (Int.toNat (IntKind.u64.wrap (32 - (bits .and .u64 (IntKind.u64.wrap k) 31)))) 32)))
set_option maxHeartbeats 4000000 in
theorem ro2_p (x k:Int):Pure Tryd.prog 59 #[.int .u32 x,.int .i64 k] (ro2_F x k):=by
  unfold ro2_F
  exact pure_of mixed Tryd.func59 _ (ro2_0 x k) rfl (tt2 ⟨(tt3 ⟨(tt7 trivial),bits64_nn _ _ _⟩),wrap64_nn _⟩)
def ro5_h (i:Nat):Hn:=⟨0,[],[],[],[]⟩
theorem ro5_0 (x k:Int):evF (yty.en tab0) ro5_h Tryd.f64 [.int .u64 x,.int .i64 k] []=some (.int .u64 (bits .or .u64 (IntKind.u64.wrap (x*2 ^ (min (Int.toNat (bits .and .u64 (IntKind.u64.wrap k) 63)) 64))) (x / 2 ^ (min (Int.toNat (IntKind.u64.wrap (64 - (bits .and .u64 (IntKind.u64.wrap k) 63)))) 64))),((((((((((((((True∧True)∧True)∧True)∧True)∧True)∧True)∧True)∧(0≤(bits .and .u64 (IntKind.u64.wrap k) 63)))∧True)∧True)∧True)∧(0≤(IntKind.u64.wrap (64 - (bits .and .u64 (IntKind.u64.wrap k) 63)))))∧True)∧True)):=by kernel_rfl
def ro5_F (x k:Int):Value:= .int .u64 (bits .or .u64 (IntKind.u64.wrap (x*2 ^ (min (Int.toNat (bits .and .u64 (IntKind.u64.wrap k) 63)) 64))) (x / 2 ^ (min (Int.toNat (IntKind.u64.wrap (64 - (bits .and .u64 (IntKind.u64.wrap k) 63)))) 64)))
set_option maxHeartbeats 4000000 in
theorem ro5_p (x k:Int):Pure Tryd.prog 64 #[.int .u64 x,.int .i64 k] (ro5_F x k):=by
  unfold ro5_F
  exact pure_of mixed Tryd.func64 _ (ro5_0 x k) rfl (tt2 ⟨(tt3 ⟨(tt7 trivial),bits64_nn _ _ _⟩),wrap64_nn _⟩)
def rl32 (x k:Int):Int:=bits .or .u32 (IntKind.u32.wrap (x*2 ^ min (Int.toNat (bits .and .u64 (IntKind.u64.wrap k) 31)) 32)) (x / 2 ^ min (Int.toNat (IntKind.u64.wrap (32 - bits .and .u64 (IntKind.u64.wrap k) 31))) 32)
def rl64 (x k:Int):Int:=bits .or .u64 (IntKind.u64.wrap (x*2 ^ min (Int.toNat (bits .and .u64 (IntKind.u64.wrap k) 63)) 64)) (x / 2 ^ min (Int.toNat (IntKind.u64.wrap (64 - bits .and .u64 (IntKind.u64.wrap k) 63))) 64)
def pRot2:Entry Tryd.prog:=ent2N Tryd.func59 (by kernel_rfl) (by kernel_rfl) (fun x k=> .int .u32 (rl32 x k)) (k:= .u32) (k':= .i64) (fun x k=>ro2_p x k)
def pRot5:Entry Tryd.prog:=ent2N Tryd.func64 (by kernel_rfl) (by kernel_rfl) (fun x k=> .int .u64 (rl64 x k)) (k:= .u64) (k':= .i64) (fun x k=>ro5_p x k)
def tabS1:List (Entry Tryd.prog):=pRot2 :: pRot5 :: []
def z2_h (i:Nat):Hn:=⟨0,[],[],[],[]⟩
theorem z2_0 (x:Int):evF (yty.en tabS1) z2_h Tryd.f45 [.int .u32 x] []=some (.int .u32 (bits .xor .u32 (bits .xor .u32 (rl32 x (-2)) (rl32 x (-13))) (rl32 x (-22))),((((((((((True∧True)∧True)∧(IntKind.u32=IntKind.u32∧IntKind.i64=IntKind.i64))∧True)∧(IntKind.u32=IntKind.u32∧IntKind.i64=IntKind.i64))∧True)∧True)∧(IntKind.u32=IntKind.u32∧IntKind.i64=IntKind.i64))∧True)∧True)):=by kernel_rfl
def z2_F (x:Int):Value:= .int .u32 (bits .xor .u32 (bits .xor .u32 (rl32 x (-2)) (rl32 x (-13))) (rl32 x (-22)))
set_option maxHeartbeats 4000000 in
theorem z2_p (x:Int):Pure Tryd.prog 45 #[.int .u32 x] (z2_F x):=by
  unfold z2_F
  exact pure_of mixed Tryd.func45 _ (z2_0 x) rfl (tt2 ⟨(tt2 ⟨(tt1 ⟨(tt2 trivial),⟨rfl,rfl⟩⟩),⟨rfl,rfl⟩⟩),⟨rfl,rfl⟩⟩)
def o2_h (i:Nat):Hn:=⟨0,[],[],[],[]⟩
theorem o2_0 (x:Int):evF (yty.en tabS1) o2_h Tryd.f44 [.int .u32 x] []=some (.int .u32 (bits .xor .u32 (bits .xor .u32 (rl32 x (-6)) (rl32 x (-11))) (rl32 x (-25))),((((((((((True∧True)∧True)∧(IntKind.u32=IntKind.u32∧IntKind.i64=IntKind.i64))∧True)∧(IntKind.u32=IntKind.u32∧IntKind.i64=IntKind.i64))∧True)∧True)∧(IntKind.u32=IntKind.u32∧IntKind.i64=IntKind.i64))∧True)∧True)):=by kernel_rfl
def o2_F (x:Int):Value:= .int .u32 (bits .xor .u32 (bits .xor .u32 (rl32 x (-6)) (rl32 x (-11))) (rl32 x (-25)))
set_option maxHeartbeats 4000000 in
theorem o2_p (x:Int):Pure Tryd.prog 44 #[.int .u32 x] (o2_F x):=by
  unfold o2_F
  exact pure_of mixed Tryd.func44 _ (o2_0 x) rfl (tt2 ⟨(tt2 ⟨(tt1 ⟨(tt2 trivial),⟨rfl,rfl⟩⟩),⟨rfl,rfl⟩⟩),⟨rfl,rfl⟩⟩)
def y2_h (i:Nat):Hn:=⟨0,[],[],[],[]⟩
theorem y2_0 (x:Int):evF (yty.en tabS1) y2_h Tryd.f58 [.int .u32 x] []=some (.int .u32 (bits .xor .u32 (bits .xor .u32 (rl32 x (-7)) (rl32 x (-18))) (x / 2 ^ (3))),((((((((((True∧True)∧True)∧(IntKind.u32=IntKind.u32∧IntKind.i64=IntKind.i64))∧True)∧(IntKind.u32=IntKind.u32∧IntKind.i64=IntKind.i64))∧True)∧True)∧((0:Int)≤3))∧True)∧True)):=by kernel_rfl
def y2_F (x:Int):Value:= .int .u32 (bits .xor .u32 (bits .xor .u32 (rl32 x (-7)) (rl32 x (-18))) (x / 2 ^ (3)))
set_option maxHeartbeats 4000000 in
theorem y2_p (x:Int):Pure Tryd.prog 58 #[.int .u32 x] (y2_F x):=by
  unfold y2_F
  exact pure_of mixed Tryd.func58 _ (y2_0 x) rfl (tt2 ⟨(tt2 ⟨(tt1 ⟨(tt2 trivial),⟨rfl,rfl⟩⟩),⟨rfl,rfl⟩⟩),(by decide)⟩)
def n2_h (i:Nat):Hn:=⟨0,[],[],[],[]⟩
theorem n2_0 (x:Int):evF (yty.en tabS1) n2_h Tryd.f57 [.int .u32 x] []=some (.int .u32 (bits .xor .u32 (bits .xor .u32 (rl32 x (-17)) (rl32 x (-19))) (x / 2 ^ (10))),((((((((((True∧True)∧True)∧(IntKind.u32=IntKind.u32∧IntKind.i64=IntKind.i64))∧True)∧(IntKind.u32=IntKind.u32∧IntKind.i64=IntKind.i64))∧True)∧True)∧((0:Int)≤10))∧True)∧True)):=by kernel_rfl
def n2_F (x:Int):Value:= .int .u32 (bits .xor .u32 (bits .xor .u32 (rl32 x (-17)) (rl32 x (-19))) (x / 2 ^ (10)))
set_option maxHeartbeats 4000000 in
theorem n2_p (x:Int):Pure Tryd.prog 57 #[.int .u32 x] (n2_F x):=by
  unfold n2_F
  exact pure_of mixed Tryd.func57 _ (n2_0 x) rfl (tt2 ⟨(tt2 ⟨(tt1 ⟨(tt2 trivial),⟨rfl,rfl⟩⟩),⟨rfl,rfl⟩⟩),(by decide)⟩)
def z5_h (i:Nat):Hn:=⟨0,[],[],[],[]⟩
theorem z5_0 (x:Int):evF (yty.en tabS1) z5_h Tryd.f55 [.int .u64 x] []=some (.int .u64 (bits .xor .u64 (bits .xor .u64 (rl64 x (-28)) (rl64 x (-34))) (rl64 x (-39))),((((((((((True∧True)∧True)∧(IntKind.u64=IntKind.u64∧IntKind.i64=IntKind.i64))∧True)∧(IntKind.u64=IntKind.u64∧IntKind.i64=IntKind.i64))∧True)∧True)∧(IntKind.u64=IntKind.u64∧IntKind.i64=IntKind.i64))∧True)∧True)):=by kernel_rfl
def z5_F (x:Int):Value:= .int .u64 (bits .xor .u64 (bits .xor .u64 (rl64 x (-28)) (rl64 x (-34))) (rl64 x (-39)))
set_option maxHeartbeats 4000000 in
theorem z5_p (x:Int):Pure Tryd.prog 55 #[.int .u64 x] (z5_F x):=by
  unfold z5_F
  exact pure_of mixed Tryd.func55 _ (z5_0 x) rfl (tt2 ⟨(tt2 ⟨(tt1 ⟨(tt2 trivial),⟨rfl,rfl⟩⟩),⟨rfl,rfl⟩⟩),⟨rfl,rfl⟩⟩)
def o5_h (i:Nat):Hn:=⟨0,[],[],[],[]⟩
theorem o5_0 (x:Int):evF (yty.en tabS1) o5_h Tryd.f54 [.int .u64 x] []=some (.int .u64 (bits .xor .u64 (bits .xor .u64 (rl64 x (-14)) (rl64 x (-18))) (rl64 x (-41))),((((((((((True∧True)∧True)∧(IntKind.u64=IntKind.u64∧IntKind.i64=IntKind.i64))∧True)∧(IntKind.u64=IntKind.u64∧IntKind.i64=IntKind.i64))∧True)∧True)∧(IntKind.u64=IntKind.u64∧IntKind.i64=IntKind.i64))∧True)∧True)):=by kernel_rfl
def o5_F (x:Int):Value:= .int .u64 (bits .xor .u64 (bits .xor .u64 (rl64 x (-14)) (rl64 x (-18))) (rl64 x (-41)))
set_option maxHeartbeats 4000000 in
theorem o5_p (x:Int):Pure Tryd.prog 54 #[.int .u64 x] (o5_F x):=by
  unfold o5_F
  exact pure_of mixed Tryd.func54 _ (o5_0 x) rfl (tt2 ⟨(tt2 ⟨(tt1 ⟨(tt2 trivial),⟨rfl,rfl⟩⟩),⟨rfl,rfl⟩⟩),⟨rfl,rfl⟩⟩)
def y5_h (i:Nat):Hn:=⟨0,[],[],[],[]⟩
theorem y5_0 (x:Int):evF (yty.en tabS1) y5_h Tryd.f63 [.int .u64 x] []=some (.int .u64 (bits .xor .u64 (bits .xor .u64 (rl64 x (-1)) (rl64 x (-8))) (x / 2 ^ (7))),((((((((((True∧True)∧True)∧(IntKind.u64=IntKind.u64∧IntKind.i64=IntKind.i64))∧True)∧(IntKind.u64=IntKind.u64∧IntKind.i64=IntKind.i64))∧True)∧True)∧((0:Int)≤7))∧True)∧True)):=by kernel_rfl
def y5_F (x:Int):Value:= .int .u64 (bits .xor .u64 (bits .xor .u64 (rl64 x (-1)) (rl64 x (-8))) (x / 2 ^ (7)))
set_option maxHeartbeats 4000000 in
theorem y5_p (x:Int):Pure Tryd.prog 63 #[.int .u64 x] (y5_F x):=by
  unfold y5_F
  exact pure_of mixed Tryd.func63 _ (y5_0 x) rfl (tt2 ⟨(tt2 ⟨(tt1 ⟨(tt2 trivial),⟨rfl,rfl⟩⟩),⟨rfl,rfl⟩⟩),(by decide)⟩)
def n5_h (i:Nat):Hn:=⟨0,[],[],[],[]⟩
theorem n5_0 (x:Int):evF (yty.en tabS1) n5_h Tryd.f62 [.int .u64 x] []=some (.int .u64 (bits .xor .u64 (bits .xor .u64 (rl64 x (-19)) (rl64 x (-61))) (x / 2 ^ (6))),((((((((((True∧True)∧True)∧(IntKind.u64=IntKind.u64∧IntKind.i64=IntKind.i64))∧True)∧(IntKind.u64=IntKind.u64∧IntKind.i64=IntKind.i64))∧True)∧True)∧((0:Int)≤6))∧True)∧True)):=by kernel_rfl
def n5_F (x:Int):Value:= .int .u64 (bits .xor .u64 (bits .xor .u64 (rl64 x (-19)) (rl64 x (-61))) (x / 2 ^ (6)))
set_option maxHeartbeats 4000000 in
theorem n5_p (x:Int):Pure Tryd.prog 62 #[.int .u64 x] (n5_F x):=by
  unfold n5_F
  exact pure_of mixed Tryd.func62 _ (n5_0 x) rfl (tt2 ⟨(tt2 ⟨(tt1 ⟨(tt2 trivial),⟨rfl,rfl⟩⟩),⟨rfl,rfl⟩⟩),(by decide)⟩)
def gz2 (x:Int):Int:=bits .xor .u32 (bits .xor .u32 (rl32 x (-2)) (rl32 x (-13))) (rl32 x (-22))
def pgz2:Entry Tryd.prog:=entN Tryd.func45 (by kernel_rfl) (by kernel_rfl) (fun x=> .int .u32 (gz2 x)) (fun _=>True) (k:= .u32) (fun x _=>z2_p x)
def go2 (x:Int):Int:=bits .xor .u32 (bits .xor .u32 (rl32 x (-6)) (rl32 x (-11))) (rl32 x (-25))
def pgo2:Entry Tryd.prog:=entN Tryd.func44 (by kernel_rfl) (by kernel_rfl) (fun x=> .int .u32 (go2 x)) (fun _=>True) (k:= .u32) (fun x _=>o2_p x)
def sz2 (x:Int):Int:=bits .xor .u32 (bits .xor .u32 (rl32 x (-7)) (rl32 x (-18))) (x / 2 ^ 3)
def psz2:Entry Tryd.prog:=entN Tryd.func58 (by kernel_rfl) (by kernel_rfl) (fun x=> .int .u32 (sz2 x)) (fun _=>True) (k:= .u32) (fun x _=>y2_p x)
def so2 (x:Int):Int:=bits .xor .u32 (bits .xor .u32 (rl32 x (-17)) (rl32 x (-19))) (x / 2 ^ 10)
def pso2:Entry Tryd.prog:=entN Tryd.func57 (by kernel_rfl) (by kernel_rfl) (fun x=> .int .u32 (so2 x)) (fun _=>True) (k:= .u32) (fun x _=>n2_p x)
def gz5 (x:Int):Int:=bits .xor .u64 (bits .xor .u64 (rl64 x (-28)) (rl64 x (-34))) (rl64 x (-39))
def pgz5:Entry Tryd.prog:=entN Tryd.func55 (by kernel_rfl) (by kernel_rfl) (fun x=> .int .u64 (gz5 x)) (fun _=>True) (k:= .u64) (fun x _=>z5_p x)
def go5 (x:Int):Int:=bits .xor .u64 (bits .xor .u64 (rl64 x (-14)) (rl64 x (-18))) (rl64 x (-41))
def pgo5:Entry Tryd.prog:=entN Tryd.func54 (by kernel_rfl) (by kernel_rfl) (fun x=> .int .u64 (go5 x)) (fun _=>True) (k:= .u64) (fun x _=>o5_p x)
def sz5 (x:Int):Int:=bits .xor .u64 (bits .xor .u64 (rl64 x (-1)) (rl64 x (-8))) (x / 2 ^ 7)
def psz5:Entry Tryd.prog:=entN Tryd.func63 (by kernel_rfl) (by kernel_rfl) (fun x=> .int .u64 (sz5 x)) (fun _=>True) (k:= .u64) (fun x _=>y5_p x)
def so5 (x:Int):Int:=bits .xor .u64 (bits .xor .u64 (rl64 x (-19)) (rl64 x (-61))) (x / 2 ^ 6)
def pso5:Entry Tryd.prog:=entN Tryd.func62 (by kernel_rfl) (by kernel_rfl) (fun x=> .int .u64 (so5 x)) (fun _=>True) (k:= .u64) (fun x _=>n5_p x)
def tabS2:List (Entry Tryd.prog):=pgz2 :: pgo2 :: psz2 :: pso2 :: pgz5 :: pgo5 :: psz5 :: pso5 :: tabS1
def iat (a:Array Value) (k:Nat):Int:=match a[k]? with
  |some (.int _ n)=>n
  |_=>0
def bytesAt (a:Array Value) (o n:Nat):Prop:=∀ j,j<n→a[o+j]? =some (.int .u8 (iat a (o+j)))∧0≤iat a (o+j)∧iat a (o+j)<256
theorem bytesAt.at {a:Array Value} {o n:Nat} (h:bytesAt a o n) {j:Nat} (hj:j<n):a[o+j]? =some (.int .u8 (iat a (o+j))):=(h j hj).1
def w2_h (i:Nat):Hn:=if i=1 then⟨23,[],[],[],[]⟩ else⟨0,[],[],[],[]⟩
theorem w2_0 (a:Array Value) (t:Tq) (o l c:Nat):evG (yty.enf tabS2 1) w2_h Tryd.f56 [(a,t)] [.slice (some ⟨0,o,none⟩) l c] [some (.int .u8 (iat a (o+0))),none,none,some (.int .u8 (iat a (o+1))),none,none,none,some (.int .u8 (iat a (o+2))),none,none,none,some (.int .u8 (iat a (o+3)))]=some (.int .u32 (bits .or .u32 (bits .or .u32 (bits .or .u32 (IntKind.u32.wrap ((IntKind.u32.wrap (iat a (o+0)))*2 ^ (24))) (IntKind.u32.wrap ((IntKind.u32.wrap (iat a (o+1)))*2 ^ (16)))) (IntKind.u32.wrap ((IntKind.u32.wrap (iat a (o+2)))*2 ^ (8)))) (IntKind.u32.wrap (iat a (o+3)))),((((((((((((((((((((((((True∧True)∧True)∧((0:Int)≤0∧(0:Int)<(l:Int)))∧((a[(o+Int.toNat 0*1)]? =some (.int .u8 (iat a (o+0))))∧(iat a (o+0))=(iat a (o+0))))∧True)∧((0:Int)≤24))∧True)∧((0:Int)≤1∧(1:Int)<(l:Int)))∧((a[(o+Int.toNat 1*1)]? =some (.int .u8 (iat a (o+1))))∧(iat a (o+1))=(iat a (o+1))))∧True)∧((0:Int)≤16))∧True)∧True)∧((0:Int)≤2∧(2:Int)<(l:Int)))∧((a[(o+Int.toNat 2*1)]? =some (.int .u8 (iat a (o+2))))∧(iat a (o+2))=(iat a (o+2))))∧True)∧((0:Int)≤8))∧True)∧True)∧((0:Int)≤3∧(3:Int)<(l:Int)))∧((a[(o+Int.toNat 3*1)]? =some (.int .u8 (iat a (o+3))))∧(iat a (o+3))=(iat a (o+3))))∧True)∧True)∧True)):=by kernel_rfl
def w2_F (a:Array Value) (t:Tq) (o l c:Nat):Value:= .int .u32 (bits .or .u32 (bits .or .u32 (bits .or .u32 (IntKind.u32.wrap ((IntKind.u32.wrap (iat a (o+0)))*2 ^ (24))) (IntKind.u32.wrap ((IntKind.u32.wrap (iat a (o+1)))*2 ^ (16)))) (IntKind.u32.wrap ((IntKind.u32.wrap (iat a (o+2)))*2 ^ (8)))) (IntKind.u32.wrap (iat a (o+3))))
set_option maxHeartbeats 4000000 in
theorem w2_p (a:Array Value) (t:Tq) (o l c:Nat) (hb:bytesAt a o 4) (hl:4≤l):Reads Tryd.prog 56 [(a,t)] [.slice (some ⟨0,o,none⟩) l c] (w2_F a t o l c):=by
  unfold w2_F
  exact reads_of (n:=1) mixed Tryd.func56 ⟨rfl,by decide⟩ _ (w2_0 a t o l c) rfl (tt3 ⟨⟨(tt2 ⟨(tt1 ⟨⟨(tt2 ⟨(tt1 ⟨⟨(tt1 ⟨(tt1 ⟨⟨(tt2 trivial),⟨by decide,by omega⟩⟩,⟨hb.at (j:=0) (by decide),rfl⟩⟩),(by decide)⟩),⟨by decide,by omega⟩⟩,⟨hb.at (j:=1) (by decide),rfl⟩⟩),(by decide)⟩),⟨by decide,by omega⟩⟩,⟨hb.at (j:=2) (by decide),rfl⟩⟩),(by decide)⟩),⟨by decide,by omega⟩⟩,⟨hb.at (j:=3) (by decide),rfl⟩⟩)
theorem readsS {P:Program} {f:FuncId} {cs:Array Value} {t:Tq} {o l c:Nat} {v:Value} (h:Reads P f [(cs,t)] [.slice (some ⟨0,o,none⟩) l c] v) {mem:List Mb} {i:Nat} (hm:mem[i]? =some (cs,t)) {w:World} {β:Nat→Nat} (hw:Has w β mem):Calls P f ([Value.slice (some ⟨i,o,none⟩) l c].map (rn β)).toArray w (fun e w'=>e= .returned v∧Below w.heap.size w w'):=
  h w (fun _ => β i) (fun j x hx => by
    cases j with
    | zero =>
      simp only[List.getElem?_cons_zero,Option.some.injEq] at hx
      subst hx
      exact hw i _ hm
    |succ j=>simp at hx) (fun i h=>by simp at h)
section
variable {P:Program} {f:FuncId} {fn:Func} (hf:P.funcs[f]? =some fn) (hn:(fn.name == "runtime.NumGoroutine")=false) (hb:fn.body.isNone=false)
def entSl (F : Array Value → Nat → Nat → Value) (C : Array Value → Nat → Nat → Prop) (h : ∀ a t o l c, C a o l → l ≤ c → Reads P f [(a, t)] [.slice (some ⟨0, o, none⟩) l c] (F a o l)) : Entry P where
  f:=f
  g := fun mem xs => match xs with
    | [.slice (some ⟨i, o, none⟩) l c] => (match mem[i]? with
      |some (a,_)=>some (F a o l,(C a o l∧l≤c))
      |none=>none)
    |_=>none
  ok := fun mem xs v c e hc w β hw _ => by
    split at e
    · rename_i i o l c0
      split at e
      · rename_i a t hm
        simp only[Option.some.injEq,Prod.mk.injEq] at e
        obtain⟨rfl,rfl⟩:=e
        exact readsS (h a t o l c0 hc.1 hc.2) hm hw
      · cases e
    · cases e
  call:=call_of hf hn hb
end
def wd2 (a:Array Value) (o:Nat):Int:=bits .or .u32 (bits .or .u32 (bits .or .u32 (IntKind.u32.wrap ((IntKind.u32.wrap (iat a (o+0)))*2 ^ (24))) (IntKind.u32.wrap ((IntKind.u32.wrap (iat a (o+1)))*2 ^ (16)))) (IntKind.u32.wrap ((IntKind.u32.wrap (iat a (o+2)))*2 ^ (8)))) (IntKind.u32.wrap (iat a (o+3)))
def pw2:Entry Tryd.prog:=entSl Tryd.func56 (by kernel_rfl) (by kernel_rfl) (fun a o _=> .int .u32 (wd2 a o)) (fun a o l=>bytesAt a o 4∧4≤l) (fun a t o l c h _=>w2_p a t o l c h.1 h.2)
def tabS3:List (Entry Tryd.prog):=pw2 :: tabS2
theorem bytesAt.sub {a:Array Value} {o n:Nat} (h:bytesAt a o n) {k m:Nat} (hk:k+m≤n):bytesAt a (o+k) m:=fun j hj=>by
  have:=h (k+j) (by omega)
  rwa[← Nat.add_assoc] at this
def w5_h (i:Nat):Hn:=if i=1 then⟨10,[],[],[],[]⟩ else⟨0,[],[],[],[]⟩
theorem w5_0 (a:Array Value) (t:Tq) (o l c:Nat):evG (yty.enf tabS3 1) w5_h Tryd.f61 [(a,t)] [.slice (some ⟨0,o,none⟩) l c] []=some (.int .u64 (bits .or .u64 (IntKind.u64.wrap ((IntKind.u64.wrap (wd2 a o))*2 ^ (32))) (IntKind.u64.wrap (wd2 a (if c=4 then o else o+4*1)))),(((((((((((True∧True)∧True)∧((bytesAt a o 4∧4≤l)∧l≤c))∧True)∧((0:Int)≤32))∧True)∧((((0:Int)≤4)∧True)∧4≤l∧l≤c))∧((bytesAt a (if c=4 then o else o+4*1) 4∧4≤(l - 4))∧(l - 4)≤(c - 4)))∧True)∧True)∧True)):=by kernel_rfl
def w5_F (a:Array Value) (t:Tq) (o l c:Nat):Value:= .int .u64 (bits .or .u64 (IntKind.u64.wrap ((IntKind.u64.wrap (wd2 a o))*2 ^ (32))) (IntKind.u64.wrap (wd2 a (if c=4 then o else o+4*1))))
set_option maxHeartbeats 4000000 in
theorem w5_p (a:Array Value) (t:Tq) (o l c:Nat) (hb:bytesAt a o 8) (hl:8≤l) (hc:l≤c):Reads Tryd.prog 61 [(a,t)] [.slice (some ⟨0,o,none⟩) l c] (w5_F a t o l c):=by
  unfold w5_F
  exact reads_of (n:=1) mixed Tryd.func61 ⟨rfl,by decide⟩ _ (w5_0 a t o l c) rfl (tt3 ⟨⟨(tt1 ⟨(tt1 ⟨(tt2 trivial),⟨⟨hb.sub (k:=0) (by decide),by omega⟩,hc⟩⟩),(by decide)⟩),⟨(tt1 (by decide)),(by omega),hc⟩⟩,⟨⟨by rw[if_neg (by omega)];exact hb.sub (k:=4) (by decide),by omega⟩,by omega⟩⟩)
def wd5 (a:Array Value) (o:Nat):Int:=bits .or .u64 (IntKind.u64.wrap ((IntKind.u64.wrap (wd2 a o))*2 ^ (32))) (IntKind.u64.wrap (wd2 a (o+4)))
theorem Word64_c (a:Array Value) (t:Tq) (o l c:Nat) (hb:bytesAt a o 8) (hl:8≤l) (hc:l≤c):Reads Tryd.prog 61 [(a,t)] [.slice (some ⟨0,o,none⟩) l c] (.int .u64 (wd5 a o)):=by
  have h:=w5_p a t o l c hb hl hc
  unfold w5_F at h
  rw[if_neg (by omega)] at h
  exact h
def pw5:Entry Tryd.prog:=entSl Tryd.func61 (by kernel_rfl) (by kernel_rfl) (fun a o _=> .int .u64 (wd5 a o)) (fun a o l=>bytesAt a o 8∧8≤l) (fun a t o l c h hc=>Word64_c a t o l c h.1 h.2 hc)
def tabS4:List (Entry Tryd.prog):=pw5 :: tabS3
end Go.Proofs.YtcfnjcacdmkgbaaDoor

set_option linter.unusedSimpArgs false
set_option linter.unusedVariables false
/-! The words of a block: pieces. -/
namespace Go.Proofs.YtcfnjcacdmkgbaaDoor
open Go.RowKit Go.Ev
variable {c0:Prop} {ch0:List (Option Value)}
def mx2 (L:List Int) (i:Nat):Int:=IntKind.u32.wrap (IntKind.u32.wrap (IntKind.u32.wrap (so2 (L.getD (i - 2) 0)+L.getD (i - 7) 0)+sz2 (L.getD (i - 15) 0))+L.getD (i - 16) 0)
def mx5 (L:List Int) (i:Nat):Int:=IntKind.u64.wrap (IntKind.u64.wrap (IntKind.u64.wrap (so5 (L.getD (i - 2) 0)+L.getD (i - 7) 0)+sz5 (L.getD (i - 15) 0))+L.getD (i - 16) 0)
def sp2A_h (i:Nat):Hn:=if i=10 then⟨23,[],[],[],[]⟩ else⟨0,[],[],[],[]⟩
def sp2A_a (a:Array Value) (t:Tq) (o l cp:Nat):List Value:= [.slice (some ⟨0,o,none⟩) l cp,undef,undef,undef,undef,undef,undef,undef,undef,undef,undef,undef,undef,undef,undef,undef,undef,undef,undef,undef,undef,undef,undef,undef,undef,undef,undef,undef,undef,undef,undef,undef,undef,undef,undef,undef,undef,undef,undef,undef,undef,undef,undef,undef,undef]
def sp2A_b (a:Array Value) (t:Tq) (o l cp:Nat):List Value:= [.slice (some ⟨0,o,none⟩) l cp,undef,.pointer (some ⟨1,0,none⟩),undef,undef,undef,undef,undef,undef,undef,undef,undef,undef,undef,undef,undef,undef,undef,undef,undef,undef,undef,undef,undef,undef,undef,undef,undef,undef,undef,undef,undef,undef,undef,undef,undef,undef,undef,undef,undef,undef,undef,undef,undef,undef]
theorem sp2A_0 (a:Array Value) (t:Tq) (o l cp:Nat):evC (yty.enf tabS4 1) sp2A_h (cAt [0] (bdy Tryd.f43)) ⟨sp2A_a a t o l cp,[(a,t)],True,[]⟩=some (.normal,⟨sp2A_b a t o l cp,[(a,t),((wA .u32 64 []),(64,(0,0)))],True,[]⟩):=by kernel_rfl
theorem sp2A_r (a:Array Value) (t:Tq) (o l cp:Nat)    :Runs Tryd.prog (cAt [0] (bdy Tryd.f43)) ⟨sp2A_a a t o l cp,[(a,t)],c0,ch0⟩ (fun e s=>e= .normal∧∃ c ch,s=⟨sp2A_b a t o l cp,[(a,t),((wA .u32 64 []),(64,(0,0)))],c,ch⟩) 1:=by
  refine(runs_ev mixed [] (sp2A_0 a t o l cp ) trivial).mono ?_
  rintro e s ⟨rfl,rfl⟩
  exact⟨rfl,_,_,rfl⟩
def sp2B_h (i:Nat):Hn:=if i=10 then⟨23,[],[],[],[]⟩ else⟨0,[],[],[],[]⟩
def sp2B_a (a:Array Value) (t:Tq) (o l cp:Nat):List Value:= [.slice (some ⟨0,o,none⟩) l cp,undef,.pointer (some ⟨1,0,none⟩),undef,undef,undef,undef,undef,undef,undef,undef,undef,undef,undef,undef,undef,undef,undef,undef,undef,undef,undef,undef,undef,undef,undef,undef,undef,undef,undef,undef,undef,undef,undef,undef,undef,undef,undef,undef,undef,undef,undef,undef,undef,undef]
def sp2B_b (a:Array Value) (t:Tq) (o l cp:Nat):List Value:= [.slice (some ⟨0,o,none⟩) l cp,undef,.pointer (some ⟨1,0,none⟩),.pointer (some ⟨2,0,none⟩),undef,undef,undef,undef,undef,undef,undef,undef,undef,undef,undef,undef,undef,undef,undef,undef,undef,undef,undef,undef,undef,undef,undef,undef,undef,undef,undef,undef,undef,undef,undef,undef,undef,undef,undef,undef,undef,undef,undef,undef,undef]
theorem sp2B_0 (a:Array Value) (t:Tq) (o l cp:Nat):evC (yty.enf tabS4 1) sp2B_h (cAt [1,0] (bdy Tryd.f43)) ⟨sp2B_a a t o l cp,[(a,t),((wA .u32 64 []),(64,(0,0)))],True,[]⟩=some (.normal,⟨sp2B_b a t o l cp,[(a,t),((wA .u32 64 []),(64,(0,0))),((wA .u32 64 []),(64,(0,0)))],True,[]⟩):=by kernel_rfl
theorem sp2B_r (a:Array Value) (t:Tq) (o l cp:Nat)    :Runs Tryd.prog (cAt [1,0] (bdy Tryd.f43)) ⟨sp2B_a a t o l cp,[(a,t),((wA .u32 64 []),(64,(0,0)))],c0,ch0⟩ (fun e s=>e= .normal∧∃ c ch,s=⟨sp2B_b a t o l cp,[(a,t),((wA .u32 64 []),(64,(0,0))),((wA .u32 64 []),(64,(0,0)))],c,ch⟩) 1:=by
  refine(runs_ev mixed [] (sp2B_0 a t o l cp ) trivial).mono ?_
  rintro e s ⟨rfl,rfl⟩
  exact⟨rfl,_,_,rfl⟩
def sp2C_h (i:Nat):Hn:=if i=10 then⟨23,[],[],[],[]⟩ else⟨0,[],[],[],[]⟩
def sp2C_a (a:Array Value) (t:Tq) (o l cp:Nat):List Value:= [.slice (some ⟨0,o,none⟩) l cp,undef,.pointer (some ⟨1,0,none⟩),.pointer (some ⟨2,0,none⟩),undef,undef,undef,undef,undef,undef,undef,undef,undef,undef,undef,undef,undef,undef,undef,undef,undef,undef,undef,undef,undef,undef,undef,undef,undef,undef,undef,undef,undef,undef,undef,undef,undef,undef,undef,undef,undef,undef,undef,undef,undef]
def sp2C_b (a:Array Value) (t:Tq) (o l cp:Nat):List Value:= [.slice (some ⟨0,o,none⟩) l cp,undef,.pointer (some ⟨1,0,none⟩),.pointer (some ⟨2,0,none⟩),undef,undef,.int .i64 0,undef,undef,undef,undef,undef,undef,undef,undef,undef,undef,undef,undef,undef,undef,undef,undef,undef,undef,undef,undef,undef,undef,undef,undef,undef,undef,undef,undef,undef,undef,undef,undef,undef,undef,undef,undef,undef,undef]
theorem sp2C_0 (a:Array Value) (t:Tq) (o l cp:Nat):evC (yty.enf tabS4 1) sp2C_h (cAt [1,1,0,0] (bdy Tryd.f43)) ⟨sp2C_a a t o l cp,[(a,t),((wA .u32 64 []),(64,(0,0))),((wA .u32 64 []),(64,(0,0)))],True,[]⟩=some (.normal,⟨sp2C_b a t o l cp,[(a,t),((wA .u32 64 []),(64,(0,0))),((wA .u32 64 []),(64,(0,0)))],(True∧True),[]⟩):=by kernel_rfl
theorem sp2C_r (a:Array Value) (t:Tq) (o l cp:Nat)    :Runs Tryd.prog (cAt [1,1,0,0] (bdy Tryd.f43)) ⟨sp2C_a a t o l cp,[(a,t),((wA .u32 64 []),(64,(0,0))),((wA .u32 64 []),(64,(0,0)))],c0,ch0⟩ (fun e s=>e= .normal∧∃ c ch,s=⟨sp2C_b a t o l cp,[(a,t),((wA .u32 64 []),(64,(0,0))),((wA .u32 64 []),(64,(0,0)))],c,ch⟩) 1:=by
  refine(runs_ev mixed [] (sp2C_0 a t o l cp ) (tt1 trivial)).mono ?_
  rintro e s ⟨rfl,rfl⟩
  exact⟨rfl,_,_,rfl⟩
def sp2T_h (i:Nat):Hn:=if i=10 then⟨23,[],[],[],[]⟩ else⟨0,[],[],[],[]⟩
def sp2T_a (a:Array Value) (t:Tq) (o l cp:Nat) (L:List Int) (i:Nat) (j:Nat→Value):List Value:= [.slice (some ⟨0,o,none⟩) l cp,j 1,.pointer (some ⟨1,0,none⟩),.pointer (some ⟨2,0,none⟩),j 4,j 5,.int .i64 (i:Int),j 7,j 8,j 9,j 10,j 11,j 12,j 13,j 14,j 15,j 16,j 17,j 18,j 19,j 20,j 21,j 22,j 23,j 24,j 25,j 26,j 27,j 28,j 29,j 30,j 31,j 32,j 33,j 34,j 35,j 36,j 37,j 38,j 39,j 40,j 41,j 42,j 43,j 44]
def sp2T_b (a:Array Value) (t:Tq) (o l cp:Nat) (L:List Int) (i:Nat) (j:Nat→Value):List Value:= [.slice (some ⟨0,o,none⟩) l cp,j 1,.pointer (some ⟨1,0,none⟩),.pointer (some ⟨2,0,none⟩),.int .i64 (i:Int),j 5,.int .i64 ((i+1:Nat):Int),.bool true,.int .i64 (i:Int),.int .i64 (i:Int),.slice (some ⟨0,o,none⟩) l cp,.int .i64 (i:Int),.int .i64 ((4*i:Nat):Int),.slice (some ⟨0,(if cp=Int.toNat ((4*i:Nat):Int) then o else o+(Int.toNat ((4*i:Nat):Int))*1),none⟩) (l - Int.toNat ((4*i:Nat):Int)) (cp - Int.toNat ((4*i:Nat):Int)),.int .u32 (wd2 a (if cp=Int.toNat ((4*i:Nat):Int) then o else o+(Int.toNat ((4*i:Nat):Int))*1)),.pointer (some ⟨2,0+Int.toNat (i:Int)*1,none⟩),.int .i64 ((i+1:Nat):Int),j 17,j 18,j 19,j 20,j 21,j 22,j 23,j 24,j 25,j 26,j 27,j 28,j 29,j 30,j 31,j 32,j 33,j 34,j 35,j 36,j 37,j 38,j 39,j 40,j 41,j 42,j 43,j 44]
theorem sp2T_0 (a:Array Value) (t:Tq) (o l cp:Nat) (L:List Int) (i:Nat) (j:Nat→Value):evC (yty.enf tabS4 1) sp2T_h (cAt [1,1,0,1,0,0] (bdy Tryd.f43)) ⟨sp2T_a a t o l cp L i j,[(a,t),((wA .u32 64 []),(64,(0,0))),((wA .u32 64 L),(64,(0,0)))],True,[some (.bool true),some (.int .i64 ((4*i:Nat):Int)),some (.agg (wA .u32 64 (L ++ [(wd2 a (if cp=Int.toNat ((4*i:Nat):Int) then o else o+(Int.toNat ((4*i:Nat):Int))*1))]))),some (.int .i64 ((i+1:Nat):Int))]⟩=some (.normal,⟨sp2T_b a t o l cp L i j,[(a,t),((wA .u32 64 []),(64,(0,0))),((wA .u32 64 (L ++ [(wd2 a (if cp=Int.toNat ((4*i:Nat):Int) then o else o+(Int.toNat ((4*i:Nat):Int))*1))])),(64,(0,0)))],(((((((((((((True∧(True∧(decide ((i:Int)<16))=true))∧True)∧True)∧True)∧True)∧True)∧(True∧(IntKind.i64.wrap (4*(i:Int)))=((4*i:Nat):Int)))∧(((0≤((4*i:Nat):Int))∧True)∧Int.toNat ((4*i:Nat):Int)≤l∧l≤cp))∧((bytesAt a (if cp=Int.toNat ((4*i:Nat):Int) then o else o+(Int.toNat ((4*i:Nat):Int))*1) 4∧4≤(l - Int.toNat ((4*i:Nat):Int)))∧(l - Int.toNat ((4*i:Nat):Int))≤(cp - Int.toNat ((4*i:Nat):Int))))∧(0≤(i:Int)∧(i:Int)<((64:Nat):Int)))∧((0+Int.toNat (i:Int)*1)<(wA .u32 64 L).size∧(wA .u32 64 L).setIfInBounds (0+Int.toNat (i:Int)*1) (.int .u32 (wd2 a (if cp=Int.toNat ((4*i:Nat):Int) then o else o+(Int.toNat ((4*i:Nat):Int))*1)))=(wA .u32 64 (L ++ [(wd2 a (if cp=Int.toNat ((4*i:Nat):Int) then o else o+(Int.toNat ((4*i:Nat):Int))*1))]))))∧(True∧(IntKind.i64.wrap ((i:Int)+1))=((i+1:Nat):Int)))∧True),[]⟩):=by kernel_rfl
theorem sp2T_r (a:Array Value) (t:Tq) (o l cp:Nat) (L:List Int) (i:Nat) (j:Nat→Value)  (q0:(True∧(IntKind.i64.wrap (4*(i:Int)))=((4*i:Nat):Int))) (q1:(((0≤((4*i:Nat):Int))∧True)∧Int.toNat ((4*i:Nat):Int)≤l∧l≤cp)) (q2:((bytesAt a (if cp=Int.toNat ((4*i:Nat):Int) then o else o+(Int.toNat ((4*i:Nat):Int))*1) 4∧4≤(l - Int.toNat ((4*i:Nat):Int)))∧(l - Int.toNat ((4*i:Nat):Int))≤(cp - Int.toNat ((4*i:Nat):Int)))) (q3:(0≤(i:Int)∧(i:Int)<((64:Nat):Int))) (q4:((0+Int.toNat (i:Int)*1)<(wA .u32 64 L).size∧(wA .u32 64 L).setIfInBounds (0+Int.toNat (i:Int)*1) (.int .u32 (wd2 a (if cp=Int.toNat ((4*i:Nat):Int) then o else o+(Int.toNat ((4*i:Nat):Int))*1)))=(wA .u32 64 (L ++ [(wd2 a (if cp=Int.toNat ((4*i:Nat):Int) then o else o+(Int.toNat ((4*i:Nat):Int))*1))])))) (q5:(True∧(IntKind.i64.wrap ((i:Int)+1))=((i+1:Nat):Int))) (h0:(decide ((i:Int)<16))=true) :Runs Tryd.prog (cAt [1,1,0,1,0,0] (bdy Tryd.f43)) ⟨sp2T_a a t o l cp L i j,[(a,t),((wA .u32 64 []),(64,(0,0))),((wA .u32 64 L),(64,(0,0)))],c0,ch0⟩ (fun e s=>e= .normal∧∃ c ch,s=⟨sp2T_b a t o l cp L i j,[(a,t),((wA .u32 64 []),(64,(0,0))),((wA .u32 64 (L ++ [(wd2 a (if cp=Int.toNat ((4*i:Nat):Int) then o else o+(Int.toNat ((4*i:Nat):Int))*1))])),(64,(0,0)))],c,ch⟩) 1:=by
  refine(runs_ev mixed [some (.bool true),some (.int .i64 ((4*i:Nat):Int)),some (.agg (wA .u32 64 (L ++ [(wd2 a (if cp=Int.toNat ((4*i:Nat):Int) then o else o+(Int.toNat ((4*i:Nat):Int))*1))]))),some (.int .i64 ((i+1:Nat):Int))] (sp2T_0 a t o l cp L i j) (tt1 ⟨⟨⟨⟨⟨⟨(tt5 ⟨trivial,⟨trivial,h0⟩⟩),q0⟩,q1⟩,q2⟩,q3⟩,q4⟩,q5⟩)).mono ?_
  rintro e s ⟨rfl,rfl⟩
  exact⟨rfl,_,_,rfl⟩
def sp2X_h (i:Nat):Hn:=if i=10 then⟨23,[],[],[],[]⟩ else⟨0,[],[],[],[]⟩
def sp2X_a (a:Array Value) (t:Tq) (o l cp:Nat) (L:List Int) (i:Nat) (j:Nat→Value):List Value:= [.slice (some ⟨0,o,none⟩) l cp,j 1,.pointer (some ⟨1,0,none⟩),.pointer (some ⟨2,0,none⟩),j 4,j 5,.int .i64 (i:Int),j 7,j 8,j 9,j 10,j 11,j 12,j 13,j 14,j 15,j 16,j 17,j 18,j 19,j 20,j 21,j 22,j 23,j 24,j 25,j 26,j 27,j 28,j 29,j 30,j 31,j 32,j 33,j 34,j 35,j 36,j 37,j 38,j 39,j 40,j 41,j 42,j 43,j 44]
def sp2X_b (a:Array Value) (t:Tq) (o l cp:Nat) (L:List Int) (i:Nat) (j:Nat→Value):List Value:= [.slice (some ⟨0,o,none⟩) l cp,j 1,.pointer (some ⟨1,0,none⟩),.pointer (some ⟨2,0,none⟩),j 4,j 5,.int .i64 (i:Int),.bool false,j 8,j 9,j 10,j 11,j 12,j 13,j 14,j 15,j 16,j 17,j 18,j 19,j 20,j 21,j 22,j 23,j 24,j 25,j 26,j 27,j 28,j 29,j 30,j 31,j 32,j 33,j 34,j 35,j 36,j 37,j 38,j 39,j 40,j 41,j 42,j 43,j 44]
theorem sp2X_0 (a:Array Value) (t:Tq) (o l cp:Nat) (L:List Int) (i:Nat) (j:Nat→Value):evC (yty.enf tabS4 1) sp2X_h (cAt [1,1,0,1,0,0] (bdy Tryd.f43)) ⟨sp2X_a a t o l cp L i j,[(a,t),((wA .u32 64 []),(64,(0,0))),((wA .u32 64 L),(64,(0,0)))],True,[some (.bool false)]⟩=some ((.exit 0),⟨sp2X_b a t o l cp L i j,[(a,t),((wA .u32 64 []),(64,(0,0))),((wA .u32 64 L),(64,(0,0)))],(True∧(True∧(decide ((i:Int)<16))=false)),[]⟩):=by kernel_rfl
theorem sp2X_r (a:Array Value) (t:Tq) (o l cp:Nat) (L:List Int) (i:Nat) (j:Nat→Value)  (h0:(decide ((i:Int)<16))=false) :Runs Tryd.prog (cAt [1,1,0,1,0,0] (bdy Tryd.f43)) ⟨sp2X_a a t o l cp L i j,[(a,t),((wA .u32 64 []),(64,(0,0))),((wA .u32 64 L),(64,(0,0)))],c0,ch0⟩ (fun e s=>e=(.exit 0)∧∃ c ch,s=⟨sp2X_b a t o l cp L i j,[(a,t),((wA .u32 64 []),(64,(0,0))),((wA .u32 64 L),(64,(0,0)))],c,ch⟩) 1:=by
  refine(runs_ev mixed [some (.bool false)] (sp2X_0 a t o l cp L i j) ⟨trivial,⟨trivial,h0⟩⟩).mono ?_
  rintro e s ⟨rfl,rfl⟩
  exact⟨rfl,_,_,rfl⟩
def sp2D_h (i:Nat):Hn:=if i=10 then⟨23,[],[],[],[]⟩ else⟨0,[],[],[],[]⟩
def sp2D_a (a:Array Value) (t:Tq) (o l cp:Nat) (L:List Int) (i:Nat) (j:Nat→Value):List Value:= [.slice (some ⟨0,o,none⟩) l cp,j 1,.pointer (some ⟨1,0,none⟩),.pointer (some ⟨2,0,none⟩),j 4,j 5,j 6,j 7,j 8,j 9,j 10,j 11,j 12,j 13,j 14,j 15,j 16,j 17,j 18,j 19,j 20,j 21,j 22,j 23,j 24,j 25,j 26,j 27,j 28,j 29,j 30,j 31,j 32,j 33,j 34,j 35,j 36,j 37,j 38,j 39,j 40,j 41,j 42,j 43,j 44]
def sp2D_b (a:Array Value) (t:Tq) (o l cp:Nat) (L:List Int) (i:Nat) (j:Nat→Value):List Value:= [.slice (some ⟨0,o,none⟩) l cp,j 1,.pointer (some ⟨1,0,none⟩),.pointer (some ⟨2,0,none⟩),j 4,.int .i64 16,j 6,j 7,j 8,j 9,j 10,j 11,j 12,j 13,j 14,j 15,j 16,j 17,j 18,j 19,j 20,j 21,j 22,j 23,j 24,j 25,j 26,j 27,j 28,j 29,j 30,j 31,j 32,j 33,j 34,j 35,j 36,j 37,j 38,j 39,j 40,j 41,j 42,j 43,j 44]
theorem sp2D_0 (a:Array Value) (t:Tq) (o l cp:Nat) (L:List Int) (i:Nat) (j:Nat→Value):evC (yty.enf tabS4 1) sp2D_h (cAt [1,1,1,0,0] (bdy Tryd.f43)) ⟨sp2D_a a t o l cp L i j,[(a,t),((wA .u32 64 []),(64,(0,0))),((wA .u32 64 L),(64,(0,0)))],True,[]⟩=some (.normal,⟨sp2D_b a t o l cp L i j,[(a,t),((wA .u32 64 []),(64,(0,0))),((wA .u32 64 L),(64,(0,0)))],(True∧True),[]⟩):=by kernel_rfl
theorem sp2D_r (a:Array Value) (t:Tq) (o l cp:Nat) (L:List Int) (i:Nat) (j:Nat→Value)   :Runs Tryd.prog (cAt [1,1,1,0,0] (bdy Tryd.f43)) ⟨sp2D_a a t o l cp L i j,[(a,t),((wA .u32 64 []),(64,(0,0))),((wA .u32 64 L),(64,(0,0)))],c0,ch0⟩ (fun e s=>e= .normal∧∃ c ch,s=⟨sp2D_b a t o l cp L i j,[(a,t),((wA .u32 64 []),(64,(0,0))),((wA .u32 64 L),(64,(0,0)))],c,ch⟩) 1:=by
  refine(runs_ev mixed [] (sp2D_0 a t o l cp L i j) (tt1 trivial)).mono ?_
  rintro e s ⟨rfl,rfl⟩
  exact⟨rfl,_,_,rfl⟩
def sp2U_h (i:Nat):Hn:=if i=10 then⟨23,[],[],[],[]⟩ else⟨0,[],[],[],[]⟩
def sp2U_a (a:Array Value) (t:Tq) (o l cp:Nat) (L:List Int) (i:Nat) (j:Nat→Value):List Value:= [.slice (some ⟨0,o,none⟩) l cp,j 1,.pointer (some ⟨1,0,none⟩),.pointer (some ⟨2,0,none⟩),j 4,.int .i64 (i:Int),j 6,j 7,j 8,j 9,j 10,j 11,j 12,j 13,j 14,j 15,j 16,j 17,j 18,j 19,j 20,j 21,j 22,j 23,j 24,j 25,j 26,j 27,j 28,j 29,j 30,j 31,j 32,j 33,j 34,j 35,j 36,j 37,j 38,j 39,j 40,j 41,j 42,j 43,j 44]
def sp2U_b (a:Array Value) (t:Tq) (o l cp:Nat) (L:List Int) (i:Nat) (j:Nat→Value):List Value:= [.slice (some ⟨0,o,none⟩) l cp,j 1,.pointer (some ⟨1,0,none⟩),.pointer (some ⟨2,0,none⟩),j 4,.int .i64 ((i+1:Nat):Int),j 6,j 7,j 8,j 9,j 10,j 11,j 12,j 13,j 14,j 15,j 16,.int .i64 (i:Int),.bool true,.int .i64 (i:Int),.int .i64 ((i+1:Nat):Int),.int .i64 (i:Int),.int .i64 (i:Int),.int .i64 ((i - 2:Nat):Int),.pointer (some ⟨2,0+Int.toNat ((i - 2:Nat):Int)*1,none⟩),.int .u32 (L.getD (i - 2) 0),.int .u32 (so2 (L.getD (i - 2) 0)),.int .i64 (i:Int),.int .i64 ((i - 7:Nat):Int),.pointer (some ⟨2,0+Int.toNat ((i - 7:Nat):Int)*1,none⟩),.int .u32 (L.getD (i - 7) 0),.int .u32 (IntKind.u32.wrap ((so2 (L.getD (i - 2) 0))+(L.getD (i - 7) 0))),.int .i64 (i:Int),.int .i64 ((i - 15:Nat):Int),.pointer (some ⟨2,0+Int.toNat ((i - 15:Nat):Int)*1,none⟩),.int .u32 (L.getD (i - 15) 0),.int .u32 (sz2 (L.getD (i - 15) 0)),.int .u32 (IntKind.u32.wrap ((IntKind.u32.wrap ((so2 (L.getD (i - 2) 0))+(L.getD (i - 7) 0)))+(sz2 (L.getD (i - 15) 0)))),.int .i64 (i:Int),.int .i64 ((i - 16:Nat):Int),.pointer (some ⟨2,0+Int.toNat ((i - 16:Nat):Int)*1,none⟩),.int .u32 (L.getD (i - 16) 0),.int .u32 (IntKind.u32.wrap ((IntKind.u32.wrap ((IntKind.u32.wrap ((so2 (L.getD (i - 2) 0))+(L.getD (i - 7) 0)))+(sz2 (L.getD (i - 15) 0))))+(L.getD (i - 16) 0))),.pointer (some ⟨2,0+Int.toNat (i:Int)*1,none⟩),j 44]
theorem sp2U_0 (a:Array Value) (t:Tq) (o l cp:Nat) (L:List Int) (i:Nat) (j:Nat→Value):evC (yty.enf tabS4 1) sp2U_h (cAt [1,1,1,0,1,0,0] (bdy Tryd.f43)) ⟨sp2U_a a t o l cp L i j,[(a,t),((wA .u32 64 []),(64,(0,0))),((wA .u32 64 L),(64,(0,0)))],True,[some (.bool true),some (.int .i64 ((i - 2:Nat):Int)),some (.int .u32 (L.getD (i - 2) 0)),some (.int .i64 ((i - 7:Nat):Int)),some (.int .u32 (L.getD (i - 7) 0)),none,some (.int .i64 ((i - 15:Nat):Int)),some (.int .u32 (L.getD (i - 15) 0)),none,some (.int .i64 ((i - 16:Nat):Int)),some (.int .u32 (L.getD (i - 16) 0)),none,some (.agg (wA .u32 64 (L ++ [mx2 L i]))),some (.int .i64 ((i+1:Nat):Int))]⟩=some (.normal,⟨sp2U_b a t o l cp L i j,[(a,t),((wA .u32 64 []),(64,(0,0))),((wA .u32 64 (L ++ [mx2 L i])),(64,(0,0)))],(((((((((((((((((((((((((((((True∧True)∧(True∧(decide ((i:Int)<64))=true))∧True)∧True)∧(True∧(IntKind.i64.wrap ((i:Int) - 2))=((i - 2:Nat):Int)))∧(0≤((i - 2:Nat):Int)∧((i - 2:Nat):Int)<((64:Nat):Int)))∧(((wA .u32 64 L)[(0+Int.toNat ((i - 2:Nat):Int)*1)]? =some (.int .u32 (L.getD (i - 2) 0)))∧(L.getD (i - 2) 0)=(L.getD (i - 2) 0)))∧(IntKind.u32=IntKind.u32∧True))∧True)∧(True∧(IntKind.i64.wrap ((i:Int) - 7))=((i - 7:Nat):Int)))∧(0≤((i - 7:Nat):Int)∧((i - 7:Nat):Int)<((64:Nat):Int)))∧(((wA .u32 64 L)[(0+Int.toNat ((i - 7:Nat):Int)*1)]? =some (.int .u32 (L.getD (i - 7) 0)))∧(L.getD (i - 7) 0)=(L.getD (i - 7) 0)))∧True)∧True)∧(True∧(IntKind.i64.wrap ((i:Int) - 15))=((i - 15:Nat):Int)))∧(0≤((i - 15:Nat):Int)∧((i - 15:Nat):Int)<((64:Nat):Int)))∧(((wA .u32 64 L)[(0+Int.toNat ((i - 15:Nat):Int)*1)]? =some (.int .u32 (L.getD (i - 15) 0)))∧(L.getD (i - 15) 0)=(L.getD (i - 15) 0)))∧(IntKind.u32=IntKind.u32∧True))∧True)∧True)∧(True∧(IntKind.i64.wrap ((i:Int) - 16))=((i - 16:Nat):Int)))∧(0≤((i - 16:Nat):Int)∧((i - 16:Nat):Int)<((64:Nat):Int)))∧(((wA .u32 64 L)[(0+Int.toNat ((i - 16:Nat):Int)*1)]? =some (.int .u32 (L.getD (i - 16) 0)))∧(L.getD (i - 16) 0)=(L.getD (i - 16) 0)))∧True)∧(0≤(i:Int)∧(i:Int)<((64:Nat):Int)))∧((0+Int.toNat (i:Int)*1)<(wA .u32 64 L).size∧(wA .u32 64 L).setIfInBounds (0+Int.toNat (i:Int)*1) (.int .u32 (IntKind.u32.wrap ((IntKind.u32.wrap ((IntKind.u32.wrap ((so2 (L.getD (i - 2) 0))+(L.getD (i - 7) 0)))+(sz2 (L.getD (i - 15) 0))))+(L.getD (i - 16) 0))))=(wA .u32 64 (L ++ [mx2 L i]))))∧True)∧(True∧(IntKind.i64.wrap ((i:Int)+1))=((i+1:Nat):Int)))∧True),[]⟩):=by kernel_rfl
theorem sp2U_r (a:Array Value) (t:Tq) (o l cp:Nat) (L:List Int) (i:Nat) (j:Nat→Value)  (q0:(True∧(IntKind.i64.wrap ((i:Int) - 2))=((i - 2:Nat):Int))) (q1:(0≤((i - 2:Nat):Int)∧((i - 2:Nat):Int)<((64:Nat):Int))) (q2:(((wA .u32 64 L)[(0+Int.toNat ((i - 2:Nat):Int)*1)]? =some (.int .u32 (L.getD (i - 2) 0)))∧(L.getD (i - 2) 0)=(L.getD (i - 2) 0))) (q3:(True∧(IntKind.i64.wrap ((i:Int) - 7))=((i - 7:Nat):Int))) (q4:(0≤((i - 7:Nat):Int)∧((i - 7:Nat):Int)<((64:Nat):Int))) (q5:(((wA .u32 64 L)[(0+Int.toNat ((i - 7:Nat):Int)*1)]? =some (.int .u32 (L.getD (i - 7) 0)))∧(L.getD (i - 7) 0)=(L.getD (i - 7) 0))) (q6:(True∧(IntKind.i64.wrap ((i:Int) - 15))=((i - 15:Nat):Int))) (q7:(0≤((i - 15:Nat):Int)∧((i - 15:Nat):Int)<((64:Nat):Int))) (q8:(((wA .u32 64 L)[(0+Int.toNat ((i - 15:Nat):Int)*1)]? =some (.int .u32 (L.getD (i - 15) 0)))∧(L.getD (i - 15) 0)=(L.getD (i - 15) 0))) (q9:(True∧(IntKind.i64.wrap ((i:Int) - 16))=((i - 16:Nat):Int))) (q10:(0≤((i - 16:Nat):Int)∧((i - 16:Nat):Int)<((64:Nat):Int))) (q11:(((wA .u32 64 L)[(0+Int.toNat ((i - 16:Nat):Int)*1)]? =some (.int .u32 (L.getD (i - 16) 0)))∧(L.getD (i - 16) 0)=(L.getD (i - 16) 0))) (q12:(0≤(i:Int)∧(i:Int)<((64:Nat):Int))) (q13:((0+Int.toNat (i:Int)*1)<(wA .u32 64 L).size∧(wA .u32 64 L).setIfInBounds (0+Int.toNat (i:Int)*1) (.int .u32 (IntKind.u32.wrap ((IntKind.u32.wrap ((IntKind.u32.wrap ((so2 (L.getD (i - 2) 0))+(L.getD (i - 7) 0)))+(sz2 (L.getD (i - 15) 0))))+(L.getD (i - 16) 0))))=(wA .u32 64 (L ++ [mx2 L i])))) (q14:(True∧(IntKind.i64.wrap ((i:Int)+1))=((i+1:Nat):Int))) (h0:(decide ((i:Int)<64))=true) :Runs Tryd.prog (cAt [1,1,1,0,1,0,0] (bdy Tryd.f43)) ⟨sp2U_a a t o l cp L i j,[(a,t),((wA .u32 64 []),(64,(0,0))),((wA .u32 64 L),(64,(0,0)))],c0,ch0⟩ (fun e s=>e= .normal∧∃ c ch,s=⟨sp2U_b a t o l cp L i j,[(a,t),((wA .u32 64 []),(64,(0,0))),((wA .u32 64 (L ++ [mx2 L i])),(64,(0,0)))],c,ch⟩) 1:=by
  refine(runs_ev mixed [some (.bool true),some (.int .i64 ((i - 2:Nat):Int)),some (.int .u32 (L.getD (i - 2) 0)),some (.int .i64 ((i - 7:Nat):Int)),some (.int .u32 (L.getD (i - 7) 0)),none,some (.int .i64 ((i - 15:Nat):Int)),some (.int .u32 (L.getD (i - 15) 0)),none,some (.int .i64 ((i - 16:Nat):Int)),some (.int .u32 (L.getD (i - 16) 0)),none,some (.agg (wA .u32 64 (L ++ [mx2 L i]))),some (.int .i64 ((i+1:Nat):Int))] (sp2U_0 a t o l cp L i j) (tt1 ⟨(tt1 ⟨⟨(tt1 ⟨⟨⟨(tt2 ⟨⟨⟨⟨(tt2 ⟨⟨⟨(tt1 ⟨⟨⟨⟨(tt2 ⟨(tt1 trivial),⟨trivial,h0⟩⟩),q0⟩,q1⟩,q2⟩,(tt1 rfl)⟩),q3⟩,q4⟩,q5⟩),q6⟩,q7⟩,q8⟩,(tt1 rfl)⟩),q9⟩,q10⟩,q11⟩),q12⟩,q13⟩),q14⟩)).mono ?_
  rintro e s ⟨rfl,rfl⟩
  exact⟨rfl,_,_,rfl⟩
def sp2Y_h (i:Nat):Hn:=if i=10 then⟨23,[],[],[],[]⟩ else⟨0,[],[],[],[]⟩
def sp2Y_a (a:Array Value) (t:Tq) (o l cp:Nat) (L:List Int) (i:Nat) (j:Nat→Value):List Value:= [.slice (some ⟨0,o,none⟩) l cp,j 1,.pointer (some ⟨1,0,none⟩),.pointer (some ⟨2,0,none⟩),j 4,.int .i64 (i:Int),j 6,j 7,j 8,j 9,j 10,j 11,j 12,j 13,j 14,j 15,j 16,j 17,j 18,j 19,j 20,j 21,j 22,j 23,j 24,j 25,j 26,j 27,j 28,j 29,j 30,j 31,j 32,j 33,j 34,j 35,j 36,j 37,j 38,j 39,j 40,j 41,j 42,j 43,j 44]
def sp2Y_b (a:Array Value) (t:Tq) (o l cp:Nat) (L:List Int) (i:Nat) (j:Nat→Value):List Value:= [.slice (some ⟨0,o,none⟩) l cp,j 1,.pointer (some ⟨1,0,none⟩),.pointer (some ⟨2,0,none⟩),j 4,.int .i64 (i:Int),j 6,j 7,j 8,j 9,j 10,j 11,j 12,j 13,j 14,j 15,j 16,.int .i64 (i:Int),.bool false,j 19,j 20,j 21,j 22,j 23,j 24,j 25,j 26,j 27,j 28,j 29,j 30,j 31,j 32,j 33,j 34,j 35,j 36,j 37,j 38,j 39,j 40,j 41,j 42,j 43,j 44]
theorem sp2Y_0 (a:Array Value) (t:Tq) (o l cp:Nat) (L:List Int) (i:Nat) (j:Nat→Value):evC (yty.enf tabS4 1) sp2Y_h (cAt [1,1,1,0,1,0,0] (bdy Tryd.f43)) ⟨sp2Y_a a t o l cp L i j,[(a,t),((wA .u32 64 []),(64,(0,0))),((wA .u32 64 L),(64,(0,0)))],True,[some (.bool false)]⟩=some ((.exit 2),⟨sp2Y_b a t o l cp L i j,[(a,t),((wA .u32 64 []),(64,(0,0))),((wA .u32 64 L),(64,(0,0)))],((True∧True)∧(True∧(decide ((i:Int)<64))=false)),[]⟩):=by kernel_rfl
theorem sp2Y_r (a:Array Value) (t:Tq) (o l cp:Nat) (L:List Int) (i:Nat) (j:Nat→Value)  (h0:(decide ((i:Int)<64))=false) :Runs Tryd.prog (cAt [1,1,1,0,1,0,0] (bdy Tryd.f43)) ⟨sp2Y_a a t o l cp L i j,[(a,t),((wA .u32 64 []),(64,(0,0))),((wA .u32 64 L),(64,(0,0)))],c0,ch0⟩ (fun e s=>e=(.exit 2)∧∃ c ch,s=⟨sp2Y_b a t o l cp L i j,[(a,t),((wA .u32 64 []),(64,(0,0))),((wA .u32 64 L),(64,(0,0)))],c,ch⟩) 1:=by
  refine(runs_ev mixed [some (.bool false)] (sp2Y_0 a t o l cp L i j) ⟨(tt1 trivial),⟨trivial,h0⟩⟩).mono ?_
  rintro e s ⟨rfl,rfl⟩
  exact⟨rfl,_,_,rfl⟩
def sp2Z_h (i:Nat):Hn:=if i=10 then⟨23,[],[],[],[]⟩ else⟨0,[],[],[],[]⟩
def sp2Z_a (a:Array Value) (t:Tq) (o l cp:Nat) (L:List Int) (j:Nat→Value):List Value:= [.slice (some ⟨0,o,none⟩) l cp,j 1,.pointer (some ⟨1,0,none⟩),.pointer (some ⟨2,0,none⟩),j 4,j 5,j 6,j 7,j 8,j 9,j 10,j 11,j 12,j 13,j 14,j 15,j 16,j 17,j 18,j 19,j 20,j 21,j 22,j 23,j 24,j 25,j 26,j 27,j 28,j 29,j 30,j 31,j 32,j 33,j 34,j 35,j 36,j 37,j 38,j 39,j 40,j 41,j 42,j 43,j 44]
def sp2Z_b (a:Array Value) (t:Tq) (o l cp:Nat) (L:List Int) (j:Nat→Value):List Value:= [.slice (some ⟨0,o,none⟩) l cp,j 1,.pointer (some ⟨1,0,none⟩),.pointer (some ⟨2,0,none⟩),j 4,j 5,j 6,j 7,j 8,j 9,j 10,j 11,j 12,j 13,j 14,j 15,j 16,j 17,j 18,j 19,j 20,j 21,j 22,j 23,j 24,j 25,j 26,j 27,j 28,j 29,j 30,j 31,j 32,j 33,j 34,j 35,j 36,j 37,j 38,j 39,j 40,j 41,j 42,j 43,.agg (wA .u32 64 L)]
theorem sp2Z_0 (a:Array Value) (t:Tq) (o l cp:Nat) (L:List Int) (j:Nat→Value):evC (yty.enf tabS4 1) sp2Z_h (cAt [1,1,1,1] (bdy Tryd.f43)) ⟨sp2Z_a a t o l cp L j,[(a,t),((wA .u32 64 []),(64,(0,0))),((wA .u32 64 L),(64,(0,0)))],True,[]⟩=some (.ret,⟨sp2Z_b a t o l cp L j,[(a,t),((wA .u32 64 L),(64,(0,0))),((wA .u32 64 L),(64,(0,0)))],((True∧True)∧((wA .u32 64 L).all (fun v=>v.oneCell')=true)),[]⟩):=by kernel_rfl
theorem sp2Z_r (a:Array Value) (t:Tq) (o l cp:Nat) (L:List Int) (j:Nat→Value)  (q0:((wA .u32 64 L).all (fun v=>v.oneCell')=true))  :Runs Tryd.prog (cAt [1,1,1,1] (bdy Tryd.f43)) ⟨sp2Z_a a t o l cp L j,[(a,t),((wA .u32 64 []),(64,(0,0))),((wA .u32 64 L),(64,(0,0)))],c0,ch0⟩ (fun e s=>e= .ret∧∃ c ch,s=⟨sp2Z_b a t o l cp L j,[(a,t),((wA .u32 64 L),(64,(0,0))),((wA .u32 64 L),(64,(0,0)))],c,ch⟩) 1:=by
  refine(runs_ev mixed [] (sp2Z_0 a t o l cp L j) ⟨(tt1 trivial),q0⟩).mono ?_
  rintro e s ⟨rfl,rfl⟩
  exact⟨rfl,_,_,rfl⟩
def sp5A_h (i:Nat):Hn:=if i=10 then⟨23,[],[],[],[]⟩ else⟨0,[],[],[],[]⟩
def sp5A_a (a:Array Value) (t:Tq) (o l cp:Nat):List Value:= [.slice (some ⟨0,o,none⟩) l cp,undef,undef,undef,undef,undef,undef,undef,undef,undef,undef,undef,undef,undef,undef,undef,undef,undef,undef,undef,undef,undef,undef,undef,undef,undef,undef,undef,undef,undef,undef,undef,undef,undef,undef,undef,undef,undef,undef,undef,undef,undef,undef,undef,undef]
def sp5A_b (a:Array Value) (t:Tq) (o l cp:Nat):List Value:= [.slice (some ⟨0,o,none⟩) l cp,undef,.pointer (some ⟨1,0,none⟩),undef,undef,undef,undef,undef,undef,undef,undef,undef,undef,undef,undef,undef,undef,undef,undef,undef,undef,undef,undef,undef,undef,undef,undef,undef,undef,undef,undef,undef,undef,undef,undef,undef,undef,undef,undef,undef,undef,undef,undef,undef,undef]
theorem sp5A_0 (a:Array Value) (t:Tq) (o l cp:Nat):evC (yty.enf tabS4 1) sp5A_h (cAt [0] (bdy Tryd.f53)) ⟨sp5A_a a t o l cp,[(a,t)],True,[]⟩=some (.normal,⟨sp5A_b a t o l cp,[(a,t),((wA .u64 80 []),(72,(0,0)))],True,[]⟩):=by kernel_rfl
theorem sp5A_r (a:Array Value) (t:Tq) (o l cp:Nat)    :Runs Tryd.prog (cAt [0] (bdy Tryd.f53)) ⟨sp5A_a a t o l cp,[(a,t)],c0,ch0⟩ (fun e s=>e= .normal∧∃ c ch,s=⟨sp5A_b a t o l cp,[(a,t),((wA .u64 80 []),(72,(0,0)))],c,ch⟩) 1:=by
  refine(runs_ev mixed [] (sp5A_0 a t o l cp ) trivial).mono ?_
  rintro e s ⟨rfl,rfl⟩
  exact⟨rfl,_,_,rfl⟩
def sp5B_h (i:Nat):Hn:=if i=10 then⟨23,[],[],[],[]⟩ else⟨0,[],[],[],[]⟩
def sp5B_a (a:Array Value) (t:Tq) (o l cp:Nat):List Value:= [.slice (some ⟨0,o,none⟩) l cp,undef,.pointer (some ⟨1,0,none⟩),undef,undef,undef,undef,undef,undef,undef,undef,undef,undef,undef,undef,undef,undef,undef,undef,undef,undef,undef,undef,undef,undef,undef,undef,undef,undef,undef,undef,undef,undef,undef,undef,undef,undef,undef,undef,undef,undef,undef,undef,undef,undef]
def sp5B_b (a:Array Value) (t:Tq) (o l cp:Nat):List Value:= [.slice (some ⟨0,o,none⟩) l cp,undef,.pointer (some ⟨1,0,none⟩),.pointer (some ⟨2,0,none⟩),undef,undef,undef,undef,undef,undef,undef,undef,undef,undef,undef,undef,undef,undef,undef,undef,undef,undef,undef,undef,undef,undef,undef,undef,undef,undef,undef,undef,undef,undef,undef,undef,undef,undef,undef,undef,undef,undef,undef,undef,undef]
theorem sp5B_0 (a:Array Value) (t:Tq) (o l cp:Nat):evC (yty.enf tabS4 1) sp5B_h (cAt [1,0] (bdy Tryd.f53)) ⟨sp5B_a a t o l cp,[(a,t),((wA .u64 80 []),(72,(0,0)))],True,[]⟩=some (.normal,⟨sp5B_b a t o l cp,[(a,t),((wA .u64 80 []),(72,(0,0))),((wA .u64 80 []),(72,(0,0)))],True,[]⟩):=by kernel_rfl
theorem sp5B_r (a:Array Value) (t:Tq) (o l cp:Nat)    :Runs Tryd.prog (cAt [1,0] (bdy Tryd.f53)) ⟨sp5B_a a t o l cp,[(a,t),((wA .u64 80 []),(72,(0,0)))],c0,ch0⟩ (fun e s=>e= .normal∧∃ c ch,s=⟨sp5B_b a t o l cp,[(a,t),((wA .u64 80 []),(72,(0,0))),((wA .u64 80 []),(72,(0,0)))],c,ch⟩) 1:=by
  refine(runs_ev mixed [] (sp5B_0 a t o l cp ) trivial).mono ?_
  rintro e s ⟨rfl,rfl⟩
  exact⟨rfl,_,_,rfl⟩
def sp5C_h (i:Nat):Hn:=if i=10 then⟨23,[],[],[],[]⟩ else⟨0,[],[],[],[]⟩
def sp5C_a (a:Array Value) (t:Tq) (o l cp:Nat):List Value:= [.slice (some ⟨0,o,none⟩) l cp,undef,.pointer (some ⟨1,0,none⟩),.pointer (some ⟨2,0,none⟩),undef,undef,undef,undef,undef,undef,undef,undef,undef,undef,undef,undef,undef,undef,undef,undef,undef,undef,undef,undef,undef,undef,undef,undef,undef,undef,undef,undef,undef,undef,undef,undef,undef,undef,undef,undef,undef,undef,undef,undef,undef]
def sp5C_b (a:Array Value) (t:Tq) (o l cp:Nat):List Value:= [.slice (some ⟨0,o,none⟩) l cp,undef,.pointer (some ⟨1,0,none⟩),.pointer (some ⟨2,0,none⟩),undef,undef,.int .i64 0,undef,undef,undef,undef,undef,undef,undef,undef,undef,undef,undef,undef,undef,undef,undef,undef,undef,undef,undef,undef,undef,undef,undef,undef,undef,undef,undef,undef,undef,undef,undef,undef,undef,undef,undef,undef,undef,undef]
theorem sp5C_0 (a:Array Value) (t:Tq) (o l cp:Nat):evC (yty.enf tabS4 1) sp5C_h (cAt [1,1,0,0] (bdy Tryd.f53)) ⟨sp5C_a a t o l cp,[(a,t),((wA .u64 80 []),(72,(0,0))),((wA .u64 80 []),(72,(0,0)))],True,[]⟩=some (.normal,⟨sp5C_b a t o l cp,[(a,t),((wA .u64 80 []),(72,(0,0))),((wA .u64 80 []),(72,(0,0)))],(True∧True),[]⟩):=by kernel_rfl
theorem sp5C_r (a:Array Value) (t:Tq) (o l cp:Nat)    :Runs Tryd.prog (cAt [1,1,0,0] (bdy Tryd.f53)) ⟨sp5C_a a t o l cp,[(a,t),((wA .u64 80 []),(72,(0,0))),((wA .u64 80 []),(72,(0,0)))],c0,ch0⟩ (fun e s=>e= .normal∧∃ c ch,s=⟨sp5C_b a t o l cp,[(a,t),((wA .u64 80 []),(72,(0,0))),((wA .u64 80 []),(72,(0,0)))],c,ch⟩) 1:=by
  refine(runs_ev mixed [] (sp5C_0 a t o l cp ) (tt1 trivial)).mono ?_
  rintro e s ⟨rfl,rfl⟩
  exact⟨rfl,_,_,rfl⟩
def sp5T_h (i:Nat):Hn:=if i=10 then⟨23,[],[],[],[]⟩ else⟨0,[],[],[],[]⟩
def sp5T_a (a:Array Value) (t:Tq) (o l cp:Nat) (L:List Int) (i:Nat) (j:Nat→Value):List Value:= [.slice (some ⟨0,o,none⟩) l cp,j 1,.pointer (some ⟨1,0,none⟩),.pointer (some ⟨2,0,none⟩),j 4,j 5,.int .i64 (i:Int),j 7,j 8,j 9,j 10,j 11,j 12,j 13,j 14,j 15,j 16,j 17,j 18,j 19,j 20,j 21,j 22,j 23,j 24,j 25,j 26,j 27,j 28,j 29,j 30,j 31,j 32,j 33,j 34,j 35,j 36,j 37,j 38,j 39,j 40,j 41,j 42,j 43,j 44]
def sp5T_b (a:Array Value) (t:Tq) (o l cp:Nat) (L:List Int) (i:Nat) (j:Nat→Value):List Value:= [.slice (some ⟨0,o,none⟩) l cp,j 1,.pointer (some ⟨1,0,none⟩),.pointer (some ⟨2,0,none⟩),.int .i64 (i:Int),j 5,.int .i64 ((i+1:Nat):Int),.bool true,.int .i64 (i:Int),.int .i64 (i:Int),.slice (some ⟨0,o,none⟩) l cp,.int .i64 (i:Int),.int .i64 ((8*i:Nat):Int),.slice (some ⟨0,(if cp=Int.toNat ((8*i:Nat):Int) then o else o+(Int.toNat ((8*i:Nat):Int))*1),none⟩) (l - Int.toNat ((8*i:Nat):Int)) (cp - Int.toNat ((8*i:Nat):Int)),.int .u64 (wd5 a (if cp=Int.toNat ((8*i:Nat):Int) then o else o+(Int.toNat ((8*i:Nat):Int))*1)),.pointer (some ⟨2,0+Int.toNat (i:Int)*1,none⟩),.int .i64 ((i+1:Nat):Int),j 17,j 18,j 19,j 20,j 21,j 22,j 23,j 24,j 25,j 26,j 27,j 28,j 29,j 30,j 31,j 32,j 33,j 34,j 35,j 36,j 37,j 38,j 39,j 40,j 41,j 42,j 43,j 44]
theorem sp5T_0 (a:Array Value) (t:Tq) (o l cp:Nat) (L:List Int) (i:Nat) (j:Nat→Value):evC (yty.enf tabS4 1) sp5T_h (cAt [1,1,0,1,0,0] (bdy Tryd.f53)) ⟨sp5T_a a t o l cp L i j,[(a,t),((wA .u64 80 []),(72,(0,0))),((wA .u64 80 L),(72,(0,0)))],True,[some (.bool true),some (.int .i64 ((8*i:Nat):Int)),some (.agg (wA .u64 80 (L ++ [(wd5 a (if cp=Int.toNat ((8*i:Nat):Int) then o else o+(Int.toNat ((8*i:Nat):Int))*1))]))),some (.int .i64 ((i+1:Nat):Int))]⟩=some (.normal,⟨sp5T_b a t o l cp L i j,[(a,t),((wA .u64 80 []),(72,(0,0))),((wA .u64 80 (L ++ [(wd5 a (if cp=Int.toNat ((8*i:Nat):Int) then o else o+(Int.toNat ((8*i:Nat):Int))*1))])),(72,(0,0)))],(((((((((((((True∧(True∧(decide ((i:Int)<16))=true))∧True)∧True)∧True)∧True)∧True)∧(True∧(IntKind.i64.wrap (8*(i:Int)))=((8*i:Nat):Int)))∧(((0≤((8*i:Nat):Int))∧True)∧Int.toNat ((8*i:Nat):Int)≤l∧l≤cp))∧((bytesAt a (if cp=Int.toNat ((8*i:Nat):Int) then o else o+(Int.toNat ((8*i:Nat):Int))*1) 8∧8≤(l - Int.toNat ((8*i:Nat):Int)))∧(l - Int.toNat ((8*i:Nat):Int))≤(cp - Int.toNat ((8*i:Nat):Int))))∧(0≤(i:Int)∧(i:Int)<((80:Nat):Int)))∧((0+Int.toNat (i:Int)*1)<(wA .u64 80 L).size∧(wA .u64 80 L).setIfInBounds (0+Int.toNat (i:Int)*1) (.int .u64 (wd5 a (if cp=Int.toNat ((8*i:Nat):Int) then o else o+(Int.toNat ((8*i:Nat):Int))*1)))=(wA .u64 80 (L ++ [(wd5 a (if cp=Int.toNat ((8*i:Nat):Int) then o else o+(Int.toNat ((8*i:Nat):Int))*1))]))))∧(True∧(IntKind.i64.wrap ((i:Int)+1))=((i+1:Nat):Int)))∧True),[]⟩):=by kernel_rfl
theorem sp5T_r (a:Array Value) (t:Tq) (o l cp:Nat) (L:List Int) (i:Nat) (j:Nat→Value)  (q0:(True∧(IntKind.i64.wrap (8*(i:Int)))=((8*i:Nat):Int))) (q1:(((0≤((8*i:Nat):Int))∧True)∧Int.toNat ((8*i:Nat):Int)≤l∧l≤cp)) (q2:((bytesAt a (if cp=Int.toNat ((8*i:Nat):Int) then o else o+(Int.toNat ((8*i:Nat):Int))*1) 8∧8≤(l - Int.toNat ((8*i:Nat):Int)))∧(l - Int.toNat ((8*i:Nat):Int))≤(cp - Int.toNat ((8*i:Nat):Int)))) (q3:(0≤(i:Int)∧(i:Int)<((80:Nat):Int))) (q4:((0+Int.toNat (i:Int)*1)<(wA .u64 80 L).size∧(wA .u64 80 L).setIfInBounds (0+Int.toNat (i:Int)*1) (.int .u64 (wd5 a (if cp=Int.toNat ((8*i:Nat):Int) then o else o+(Int.toNat ((8*i:Nat):Int))*1)))=(wA .u64 80 (L ++ [(wd5 a (if cp=Int.toNat ((8*i:Nat):Int) then o else o+(Int.toNat ((8*i:Nat):Int))*1))])))) (q5:(True∧(IntKind.i64.wrap ((i:Int)+1))=((i+1:Nat):Int))) (h0:(decide ((i:Int)<16))=true) :Runs Tryd.prog (cAt [1,1,0,1,0,0] (bdy Tryd.f53)) ⟨sp5T_a a t o l cp L i j,[(a,t),((wA .u64 80 []),(72,(0,0))),((wA .u64 80 L),(72,(0,0)))],c0,ch0⟩ (fun e s=>e= .normal∧∃ c ch,s=⟨sp5T_b a t o l cp L i j,[(a,t),((wA .u64 80 []),(72,(0,0))),((wA .u64 80 (L ++ [(wd5 a (if cp=Int.toNat ((8*i:Nat):Int) then o else o+(Int.toNat ((8*i:Nat):Int))*1))])),(72,(0,0)))],c,ch⟩) 1:=by
  refine(runs_ev mixed [some (.bool true),some (.int .i64 ((8*i:Nat):Int)),some (.agg (wA .u64 80 (L ++ [(wd5 a (if cp=Int.toNat ((8*i:Nat):Int) then o else o+(Int.toNat ((8*i:Nat):Int))*1))]))),some (.int .i64 ((i+1:Nat):Int))] (sp5T_0 a t o l cp L i j) (tt1 ⟨⟨⟨⟨⟨⟨(tt5 ⟨trivial,⟨trivial,h0⟩⟩),q0⟩,q1⟩,q2⟩,q3⟩,q4⟩,q5⟩)).mono ?_
  rintro e s ⟨rfl,rfl⟩
  exact⟨rfl,_,_,rfl⟩
def sp5X_h (i:Nat):Hn:=if i=10 then⟨23,[],[],[],[]⟩ else⟨0,[],[],[],[]⟩
def sp5X_a (a:Array Value) (t:Tq) (o l cp:Nat) (L:List Int) (i:Nat) (j:Nat→Value):List Value:= [.slice (some ⟨0,o,none⟩) l cp,j 1,.pointer (some ⟨1,0,none⟩),.pointer (some ⟨2,0,none⟩),j 4,j 5,.int .i64 (i:Int),j 7,j 8,j 9,j 10,j 11,j 12,j 13,j 14,j 15,j 16,j 17,j 18,j 19,j 20,j 21,j 22,j 23,j 24,j 25,j 26,j 27,j 28,j 29,j 30,j 31,j 32,j 33,j 34,j 35,j 36,j 37,j 38,j 39,j 40,j 41,j 42,j 43,j 44]
def sp5X_b (a:Array Value) (t:Tq) (o l cp:Nat) (L:List Int) (i:Nat) (j:Nat→Value):List Value:= [.slice (some ⟨0,o,none⟩) l cp,j 1,.pointer (some ⟨1,0,none⟩),.pointer (some ⟨2,0,none⟩),j 4,j 5,.int .i64 (i:Int),.bool false,j 8,j 9,j 10,j 11,j 12,j 13,j 14,j 15,j 16,j 17,j 18,j 19,j 20,j 21,j 22,j 23,j 24,j 25,j 26,j 27,j 28,j 29,j 30,j 31,j 32,j 33,j 34,j 35,j 36,j 37,j 38,j 39,j 40,j 41,j 42,j 43,j 44]
theorem sp5X_0 (a:Array Value) (t:Tq) (o l cp:Nat) (L:List Int) (i:Nat) (j:Nat→Value):evC (yty.enf tabS4 1) sp5X_h (cAt [1,1,0,1,0,0] (bdy Tryd.f53)) ⟨sp5X_a a t o l cp L i j,[(a,t),((wA .u64 80 []),(72,(0,0))),((wA .u64 80 L),(72,(0,0)))],True,[some (.bool false)]⟩=some ((.exit 0),⟨sp5X_b a t o l cp L i j,[(a,t),((wA .u64 80 []),(72,(0,0))),((wA .u64 80 L),(72,(0,0)))],(True∧(True∧(decide ((i:Int)<16))=false)),[]⟩):=by kernel_rfl
theorem sp5X_r (a:Array Value) (t:Tq) (o l cp:Nat) (L:List Int) (i:Nat) (j:Nat→Value)  (h0:(decide ((i:Int)<16))=false) :Runs Tryd.prog (cAt [1,1,0,1,0,0] (bdy Tryd.f53)) ⟨sp5X_a a t o l cp L i j,[(a,t),((wA .u64 80 []),(72,(0,0))),((wA .u64 80 L),(72,(0,0)))],c0,ch0⟩ (fun e s=>e=(.exit 0)∧∃ c ch,s=⟨sp5X_b a t o l cp L i j,[(a,t),((wA .u64 80 []),(72,(0,0))),((wA .u64 80 L),(72,(0,0)))],c,ch⟩) 1:=by
  refine(runs_ev mixed [some (.bool false)] (sp5X_0 a t o l cp L i j) ⟨trivial,⟨trivial,h0⟩⟩).mono ?_
  rintro e s ⟨rfl,rfl⟩
  exact⟨rfl,_,_,rfl⟩
def sp5D_h (i:Nat):Hn:=if i=10 then⟨23,[],[],[],[]⟩ else⟨0,[],[],[],[]⟩
def sp5D_a (a:Array Value) (t:Tq) (o l cp:Nat) (L:List Int) (i:Nat) (j:Nat→Value):List Value:= [.slice (some ⟨0,o,none⟩) l cp,j 1,.pointer (some ⟨1,0,none⟩),.pointer (some ⟨2,0,none⟩),j 4,j 5,j 6,j 7,j 8,j 9,j 10,j 11,j 12,j 13,j 14,j 15,j 16,j 17,j 18,j 19,j 20,j 21,j 22,j 23,j 24,j 25,j 26,j 27,j 28,j 29,j 30,j 31,j 32,j 33,j 34,j 35,j 36,j 37,j 38,j 39,j 40,j 41,j 42,j 43,j 44]
def sp5D_b (a:Array Value) (t:Tq) (o l cp:Nat) (L:List Int) (i:Nat) (j:Nat→Value):List Value:= [.slice (some ⟨0,o,none⟩) l cp,j 1,.pointer (some ⟨1,0,none⟩),.pointer (some ⟨2,0,none⟩),j 4,.int .i64 16,j 6,j 7,j 8,j 9,j 10,j 11,j 12,j 13,j 14,j 15,j 16,j 17,j 18,j 19,j 20,j 21,j 22,j 23,j 24,j 25,j 26,j 27,j 28,j 29,j 30,j 31,j 32,j 33,j 34,j 35,j 36,j 37,j 38,j 39,j 40,j 41,j 42,j 43,j 44]
theorem sp5D_0 (a:Array Value) (t:Tq) (o l cp:Nat) (L:List Int) (i:Nat) (j:Nat→Value):evC (yty.enf tabS4 1) sp5D_h (cAt [1,1,1,0,0] (bdy Tryd.f53)) ⟨sp5D_a a t o l cp L i j,[(a,t),((wA .u64 80 []),(72,(0,0))),((wA .u64 80 L),(72,(0,0)))],True,[]⟩=some (.normal,⟨sp5D_b a t o l cp L i j,[(a,t),((wA .u64 80 []),(72,(0,0))),((wA .u64 80 L),(72,(0,0)))],(True∧True),[]⟩):=by kernel_rfl
theorem sp5D_r (a:Array Value) (t:Tq) (o l cp:Nat) (L:List Int) (i:Nat) (j:Nat→Value)   :Runs Tryd.prog (cAt [1,1,1,0,0] (bdy Tryd.f53)) ⟨sp5D_a a t o l cp L i j,[(a,t),((wA .u64 80 []),(72,(0,0))),((wA .u64 80 L),(72,(0,0)))],c0,ch0⟩ (fun e s=>e= .normal∧∃ c ch,s=⟨sp5D_b a t o l cp L i j,[(a,t),((wA .u64 80 []),(72,(0,0))),((wA .u64 80 L),(72,(0,0)))],c,ch⟩) 1:=by
  refine(runs_ev mixed [] (sp5D_0 a t o l cp L i j) (tt1 trivial)).mono ?_
  rintro e s ⟨rfl,rfl⟩
  exact⟨rfl,_,_,rfl⟩
def sp5U_h (i:Nat):Hn:=if i=10 then⟨23,[],[],[],[]⟩ else⟨0,[],[],[],[]⟩
def sp5U_a (a:Array Value) (t:Tq) (o l cp:Nat) (L:List Int) (i:Nat) (j:Nat→Value):List Value:= [.slice (some ⟨0,o,none⟩) l cp,j 1,.pointer (some ⟨1,0,none⟩),.pointer (some ⟨2,0,none⟩),j 4,.int .i64 (i:Int),j 6,j 7,j 8,j 9,j 10,j 11,j 12,j 13,j 14,j 15,j 16,j 17,j 18,j 19,j 20,j 21,j 22,j 23,j 24,j 25,j 26,j 27,j 28,j 29,j 30,j 31,j 32,j 33,j 34,j 35,j 36,j 37,j 38,j 39,j 40,j 41,j 42,j 43,j 44]
def sp5U_b (a:Array Value) (t:Tq) (o l cp:Nat) (L:List Int) (i:Nat) (j:Nat→Value):List Value:= [.slice (some ⟨0,o,none⟩) l cp,j 1,.pointer (some ⟨1,0,none⟩),.pointer (some ⟨2,0,none⟩),j 4,.int .i64 ((i+1:Nat):Int),j 6,j 7,j 8,j 9,j 10,j 11,j 12,j 13,j 14,j 15,j 16,.int .i64 (i:Int),.bool true,.int .i64 (i:Int),.int .i64 ((i+1:Nat):Int),.int .i64 (i:Int),.int .i64 (i:Int),.int .i64 ((i - 2:Nat):Int),.pointer (some ⟨2,0+Int.toNat ((i - 2:Nat):Int)*1,none⟩),.int .u64 (L.getD (i - 2) 0),.int .u64 (so5 (L.getD (i - 2) 0)),.int .i64 (i:Int),.int .i64 ((i - 7:Nat):Int),.pointer (some ⟨2,0+Int.toNat ((i - 7:Nat):Int)*1,none⟩),.int .u64 (L.getD (i - 7) 0),.int .u64 (IntKind.u64.wrap ((so5 (L.getD (i - 2) 0))+(L.getD (i - 7) 0))),.int .i64 (i:Int),.int .i64 ((i - 15:Nat):Int),.pointer (some ⟨2,0+Int.toNat ((i - 15:Nat):Int)*1,none⟩),.int .u64 (L.getD (i - 15) 0),.int .u64 (sz5 (L.getD (i - 15) 0)),.int .u64 (IntKind.u64.wrap ((IntKind.u64.wrap ((so5 (L.getD (i - 2) 0))+(L.getD (i - 7) 0)))+(sz5 (L.getD (i - 15) 0)))),.int .i64 (i:Int),.int .i64 ((i - 16:Nat):Int),.pointer (some ⟨2,0+Int.toNat ((i - 16:Nat):Int)*1,none⟩),.int .u64 (L.getD (i - 16) 0),.int .u64 (IntKind.u64.wrap ((IntKind.u64.wrap ((IntKind.u64.wrap ((so5 (L.getD (i - 2) 0))+(L.getD (i - 7) 0)))+(sz5 (L.getD (i - 15) 0))))+(L.getD (i - 16) 0))),.pointer (some ⟨2,0+Int.toNat (i:Int)*1,none⟩),j 44]
theorem sp5U_0 (a:Array Value) (t:Tq) (o l cp:Nat) (L:List Int) (i:Nat) (j:Nat→Value):evC (yty.enf tabS4 1) sp5U_h (cAt [1,1,1,0,1,0,0] (bdy Tryd.f53)) ⟨sp5U_a a t o l cp L i j,[(a,t),((wA .u64 80 []),(72,(0,0))),((wA .u64 80 L),(72,(0,0)))],True,[some (.bool true),some (.int .i64 ((i - 2:Nat):Int)),some (.int .u64 (L.getD (i - 2) 0)),some (.int .i64 ((i - 7:Nat):Int)),some (.int .u64 (L.getD (i - 7) 0)),none,some (.int .i64 ((i - 15:Nat):Int)),some (.int .u64 (L.getD (i - 15) 0)),none,some (.int .i64 ((i - 16:Nat):Int)),some (.int .u64 (L.getD (i - 16) 0)),none,some (.agg (wA .u64 80 (L ++ [mx5 L i]))),some (.int .i64 ((i+1:Nat):Int))]⟩=some (.normal,⟨sp5U_b a t o l cp L i j,[(a,t),((wA .u64 80 []),(72,(0,0))),((wA .u64 80 (L ++ [mx5 L i])),(72,(0,0)))],(((((((((((((((((((((((((((((True∧True)∧(True∧(decide ((i:Int)<80))=true))∧True)∧True)∧(True∧(IntKind.i64.wrap ((i:Int) - 2))=((i - 2:Nat):Int)))∧(0≤((i - 2:Nat):Int)∧((i - 2:Nat):Int)<((80:Nat):Int)))∧(((wA .u64 80 L)[(0+Int.toNat ((i - 2:Nat):Int)*1)]? =some (.int .u64 (L.getD (i - 2) 0)))∧(L.getD (i - 2) 0)=(L.getD (i - 2) 0)))∧(IntKind.u64=IntKind.u64∧True))∧True)∧(True∧(IntKind.i64.wrap ((i:Int) - 7))=((i - 7:Nat):Int)))∧(0≤((i - 7:Nat):Int)∧((i - 7:Nat):Int)<((80:Nat):Int)))∧(((wA .u64 80 L)[(0+Int.toNat ((i - 7:Nat):Int)*1)]? =some (.int .u64 (L.getD (i - 7) 0)))∧(L.getD (i - 7) 0)=(L.getD (i - 7) 0)))∧True)∧True)∧(True∧(IntKind.i64.wrap ((i:Int) - 15))=((i - 15:Nat):Int)))∧(0≤((i - 15:Nat):Int)∧((i - 15:Nat):Int)<((80:Nat):Int)))∧(((wA .u64 80 L)[(0+Int.toNat ((i - 15:Nat):Int)*1)]? =some (.int .u64 (L.getD (i - 15) 0)))∧(L.getD (i - 15) 0)=(L.getD (i - 15) 0)))∧(IntKind.u64=IntKind.u64∧True))∧True)∧True)∧(True∧(IntKind.i64.wrap ((i:Int) - 16))=((i - 16:Nat):Int)))∧(0≤((i - 16:Nat):Int)∧((i - 16:Nat):Int)<((80:Nat):Int)))∧(((wA .u64 80 L)[(0+Int.toNat ((i - 16:Nat):Int)*1)]? =some (.int .u64 (L.getD (i - 16) 0)))∧(L.getD (i - 16) 0)=(L.getD (i - 16) 0)))∧True)∧(0≤(i:Int)∧(i:Int)<((80:Nat):Int)))∧((0+Int.toNat (i:Int)*1)<(wA .u64 80 L).size∧(wA .u64 80 L).setIfInBounds (0+Int.toNat (i:Int)*1) (.int .u64 (IntKind.u64.wrap ((IntKind.u64.wrap ((IntKind.u64.wrap ((so5 (L.getD (i - 2) 0))+(L.getD (i - 7) 0)))+(sz5 (L.getD (i - 15) 0))))+(L.getD (i - 16) 0))))=(wA .u64 80 (L ++ [mx5 L i]))))∧True)∧(True∧(IntKind.i64.wrap ((i:Int)+1))=((i+1:Nat):Int)))∧True),[]⟩):=by kernel_rfl
theorem sp5U_r (a:Array Value) (t:Tq) (o l cp:Nat) (L:List Int) (i:Nat) (j:Nat→Value)  (q0:(True∧(IntKind.i64.wrap ((i:Int) - 2))=((i - 2:Nat):Int))) (q1:(0≤((i - 2:Nat):Int)∧((i - 2:Nat):Int)<((80:Nat):Int))) (q2:(((wA .u64 80 L)[(0+Int.toNat ((i - 2:Nat):Int)*1)]? =some (.int .u64 (L.getD (i - 2) 0)))∧(L.getD (i - 2) 0)=(L.getD (i - 2) 0))) (q3:(True∧(IntKind.i64.wrap ((i:Int) - 7))=((i - 7:Nat):Int))) (q4:(0≤((i - 7:Nat):Int)∧((i - 7:Nat):Int)<((80:Nat):Int))) (q5:(((wA .u64 80 L)[(0+Int.toNat ((i - 7:Nat):Int)*1)]? =some (.int .u64 (L.getD (i - 7) 0)))∧(L.getD (i - 7) 0)=(L.getD (i - 7) 0))) (q6:(True∧(IntKind.i64.wrap ((i:Int) - 15))=((i - 15:Nat):Int))) (q7:(0≤((i - 15:Nat):Int)∧((i - 15:Nat):Int)<((80:Nat):Int))) (q8:(((wA .u64 80 L)[(0+Int.toNat ((i - 15:Nat):Int)*1)]? =some (.int .u64 (L.getD (i - 15) 0)))∧(L.getD (i - 15) 0)=(L.getD (i - 15) 0))) (q9:(True∧(IntKind.i64.wrap ((i:Int) - 16))=((i - 16:Nat):Int))) (q10:(0≤((i - 16:Nat):Int)∧((i - 16:Nat):Int)<((80:Nat):Int))) (q11:(((wA .u64 80 L)[(0+Int.toNat ((i - 16:Nat):Int)*1)]? =some (.int .u64 (L.getD (i - 16) 0)))∧(L.getD (i - 16) 0)=(L.getD (i - 16) 0))) (q12:(0≤(i:Int)∧(i:Int)<((80:Nat):Int))) (q13:((0+Int.toNat (i:Int)*1)<(wA .u64 80 L).size∧(wA .u64 80 L).setIfInBounds (0+Int.toNat (i:Int)*1) (.int .u64 (IntKind.u64.wrap ((IntKind.u64.wrap ((IntKind.u64.wrap ((so5 (L.getD (i - 2) 0))+(L.getD (i - 7) 0)))+(sz5 (L.getD (i - 15) 0))))+(L.getD (i - 16) 0))))=(wA .u64 80 (L ++ [mx5 L i])))) (q14:(True∧(IntKind.i64.wrap ((i:Int)+1))=((i+1:Nat):Int))) (h0:(decide ((i:Int)<80))=true) :Runs Tryd.prog (cAt [1,1,1,0,1,0,0] (bdy Tryd.f53)) ⟨sp5U_a a t o l cp L i j,[(a,t),((wA .u64 80 []),(72,(0,0))),((wA .u64 80 L),(72,(0,0)))],c0,ch0⟩ (fun e s=>e= .normal∧∃ c ch,s=⟨sp5U_b a t o l cp L i j,[(a,t),((wA .u64 80 []),(72,(0,0))),((wA .u64 80 (L ++ [mx5 L i])),(72,(0,0)))],c,ch⟩) 1:=by
  refine(runs_ev mixed [some (.bool true),some (.int .i64 ((i - 2:Nat):Int)),some (.int .u64 (L.getD (i - 2) 0)),some (.int .i64 ((i - 7:Nat):Int)),some (.int .u64 (L.getD (i - 7) 0)),none,some (.int .i64 ((i - 15:Nat):Int)),some (.int .u64 (L.getD (i - 15) 0)),none,some (.int .i64 ((i - 16:Nat):Int)),some (.int .u64 (L.getD (i - 16) 0)),none,some (.agg (wA .u64 80 (L ++ [mx5 L i]))),some (.int .i64 ((i+1:Nat):Int))] (sp5U_0 a t o l cp L i j) (tt1 ⟨(tt1 ⟨⟨(tt1 ⟨⟨⟨(tt2 ⟨⟨⟨⟨(tt2 ⟨⟨⟨(tt1 ⟨⟨⟨⟨(tt2 ⟨(tt1 trivial),⟨trivial,h0⟩⟩),q0⟩,q1⟩,q2⟩,(tt1 rfl)⟩),q3⟩,q4⟩,q5⟩),q6⟩,q7⟩,q8⟩,(tt1 rfl)⟩),q9⟩,q10⟩,q11⟩),q12⟩,q13⟩),q14⟩)).mono ?_
  rintro e s ⟨rfl,rfl⟩
  exact⟨rfl,_,_,rfl⟩
def sp5Y_h (i:Nat):Hn:=if i=10 then⟨23,[],[],[],[]⟩ else⟨0,[],[],[],[]⟩
def sp5Y_a (a:Array Value) (t:Tq) (o l cp:Nat) (L:List Int) (i:Nat) (j:Nat→Value):List Value:= [.slice (some ⟨0,o,none⟩) l cp,j 1,.pointer (some ⟨1,0,none⟩),.pointer (some ⟨2,0,none⟩),j 4,.int .i64 (i:Int),j 6,j 7,j 8,j 9,j 10,j 11,j 12,j 13,j 14,j 15,j 16,j 17,j 18,j 19,j 20,j 21,j 22,j 23,j 24,j 25,j 26,j 27,j 28,j 29,j 30,j 31,j 32,j 33,j 34,j 35,j 36,j 37,j 38,j 39,j 40,j 41,j 42,j 43,j 44]
def sp5Y_b (a:Array Value) (t:Tq) (o l cp:Nat) (L:List Int) (i:Nat) (j:Nat→Value):List Value:= [.slice (some ⟨0,o,none⟩) l cp,j 1,.pointer (some ⟨1,0,none⟩),.pointer (some ⟨2,0,none⟩),j 4,.int .i64 (i:Int),j 6,j 7,j 8,j 9,j 10,j 11,j 12,j 13,j 14,j 15,j 16,.int .i64 (i:Int),.bool false,j 19,j 20,j 21,j 22,j 23,j 24,j 25,j 26,j 27,j 28,j 29,j 30,j 31,j 32,j 33,j 34,j 35,j 36,j 37,j 38,j 39,j 40,j 41,j 42,j 43,j 44]
theorem sp5Y_0 (a:Array Value) (t:Tq) (o l cp:Nat) (L:List Int) (i:Nat) (j:Nat→Value):evC (yty.enf tabS4 1) sp5Y_h (cAt [1,1,1,0,1,0,0] (bdy Tryd.f53)) ⟨sp5Y_a a t o l cp L i j,[(a,t),((wA .u64 80 []),(72,(0,0))),((wA .u64 80 L),(72,(0,0)))],True,[some (.bool false)]⟩=some ((.exit 2),⟨sp5Y_b a t o l cp L i j,[(a,t),((wA .u64 80 []),(72,(0,0))),((wA .u64 80 L),(72,(0,0)))],((True∧True)∧(True∧(decide ((i:Int)<80))=false)),[]⟩):=by kernel_rfl
theorem sp5Y_r (a:Array Value) (t:Tq) (o l cp:Nat) (L:List Int) (i:Nat) (j:Nat→Value)  (h0:(decide ((i:Int)<80))=false) :Runs Tryd.prog (cAt [1,1,1,0,1,0,0] (bdy Tryd.f53)) ⟨sp5Y_a a t o l cp L i j,[(a,t),((wA .u64 80 []),(72,(0,0))),((wA .u64 80 L),(72,(0,0)))],c0,ch0⟩ (fun e s=>e=(.exit 2)∧∃ c ch,s=⟨sp5Y_b a t o l cp L i j,[(a,t),((wA .u64 80 []),(72,(0,0))),((wA .u64 80 L),(72,(0,0)))],c,ch⟩) 1:=by
  refine(runs_ev mixed [some (.bool false)] (sp5Y_0 a t o l cp L i j) ⟨(tt1 trivial),⟨trivial,h0⟩⟩).mono ?_
  rintro e s ⟨rfl,rfl⟩
  exact⟨rfl,_,_,rfl⟩
def sp5Z_h (i:Nat):Hn:=if i=10 then⟨23,[],[],[],[]⟩ else⟨0,[],[],[],[]⟩
def sp5Z_a (a:Array Value) (t:Tq) (o l cp:Nat) (L:List Int) (j:Nat→Value):List Value:= [.slice (some ⟨0,o,none⟩) l cp,j 1,.pointer (some ⟨1,0,none⟩),.pointer (some ⟨2,0,none⟩),j 4,j 5,j 6,j 7,j 8,j 9,j 10,j 11,j 12,j 13,j 14,j 15,j 16,j 17,j 18,j 19,j 20,j 21,j 22,j 23,j 24,j 25,j 26,j 27,j 28,j 29,j 30,j 31,j 32,j 33,j 34,j 35,j 36,j 37,j 38,j 39,j 40,j 41,j 42,j 43,j 44]
def sp5Z_b (a:Array Value) (t:Tq) (o l cp:Nat) (L:List Int) (j:Nat→Value):List Value:= [.slice (some ⟨0,o,none⟩) l cp,j 1,.pointer (some ⟨1,0,none⟩),.pointer (some ⟨2,0,none⟩),j 4,j 5,j 6,j 7,j 8,j 9,j 10,j 11,j 12,j 13,j 14,j 15,j 16,j 17,j 18,j 19,j 20,j 21,j 22,j 23,j 24,j 25,j 26,j 27,j 28,j 29,j 30,j 31,j 32,j 33,j 34,j 35,j 36,j 37,j 38,j 39,j 40,j 41,j 42,j 43,.agg (wA .u64 80 L)]
theorem sp5Z_0 (a:Array Value) (t:Tq) (o l cp:Nat) (L:List Int) (j:Nat→Value):evC (yty.enf tabS4 1) sp5Z_h (cAt [1,1,1,1] (bdy Tryd.f53)) ⟨sp5Z_a a t o l cp L j,[(a,t),((wA .u64 80 []),(72,(0,0))),((wA .u64 80 L),(72,(0,0)))],True,[]⟩=some (.ret,⟨sp5Z_b a t o l cp L j,[(a,t),((wA .u64 80 L),(72,(0,0))),((wA .u64 80 L),(72,(0,0)))],((True∧True)∧((wA .u64 80 L).all (fun v=>v.oneCell')=true)),[]⟩):=by kernel_rfl
theorem sp5Z_r (a:Array Value) (t:Tq) (o l cp:Nat) (L:List Int) (j:Nat→Value)  (q0:((wA .u64 80 L).all (fun v=>v.oneCell')=true))  :Runs Tryd.prog (cAt [1,1,1,1] (bdy Tryd.f53)) ⟨sp5Z_a a t o l cp L j,[(a,t),((wA .u64 80 []),(72,(0,0))),((wA .u64 80 L),(72,(0,0)))],c0,ch0⟩ (fun e s=>e= .ret∧∃ c ch,s=⟨sp5Z_b a t o l cp L j,[(a,t),((wA .u64 80 L),(72,(0,0))),((wA .u64 80 L),(72,(0,0)))],c,ch⟩) 1:=by
  refine(runs_ev mixed [] (sp5Z_0 a t o l cp L j) ⟨(tt1 trivial),q0⟩).mono ?_
  rintro e s ⟨rfl,rfl⟩
  exact⟨rfl,_,_,rfl⟩
end Go.Proofs.YtcfnjcacdmkgbaaDoor

set_option linter.unusedSimpArgs false
set_option linter.unusedVariables false
/-! The words of a block: loops. -/
namespace Go.Proofs.YtcfnjcacdmkgbaaDoor
open Go.RowKit Go.Ev
variable {c0:Prop} {ch0:List (Option Value)}
theorem wi {n:Int} (h0: -9223372036854775808≤n) (h1:n<9223372036854775808):IntKind.i64.wrap n=n:=by rw[IntKind.wrap_i64];omega
theorem wA_size (k:IntKind) (n:Nat) (L:List Int):(wA k n L).size=n:=by simp[wA]
theorem wA_at {k:IntKind} {n:Nat} {L:List Int} {p:Nat} (h:p<n):(wA k n L)[p]? =some (.int k (L.getD p 0)):=by
  simp[wA,h]
theorem wA_get {k:IntKind} {n:Nat} {L:List Int} {p q:Nat} (h:p<n) (e:q=p):(wA k n L)[q]? =some (.int k (L.getD p 0)):=by
  subst e;exact wA_at h
theorem wA_set {k : IntKind} {n : Nat} {L : List Int} {x : Int} {p : Nat} (h : L.length < n) (e : p = L.length) : p < (wA k n L).size ∧ (wA k n L).setIfInBounds p (.int k x) = wA k n (L ++ [x]) := by
  subst e
  refine⟨by rw[wA_size];exact h,?_⟩
  apply Array.ext
  · rw[Array.size_setIfInBounds,wA_size,wA_size]
  · intro i h1 h2
    rw[Array.size_setIfInBounds,wA_size] at h1
    have e1 : ((wA k n L).setIfInBounds L.length (.int k x))[i]? = (wA k n (L ++ [x]))[i]? := by
      rw[wA_at h1,Array.getElem?_setIfInBounds,wA_size]
      by_cases hi:L.length=i
      · subst hi
        rw[if_pos rfl,if_pos h]
        simp
      · rw [if_neg hi, wA_at h1]
        congr 2
        rw[List.getD_eq_getElem?_getD,List.getD_eq_getElem?_getD,List.getElem?_append]
        split
        · rfl
        · rw[List.getElem?_eq_none (by omega),List.getElem?_eq_none (by simp;omega)]
    rw[Array.getElem?_eq_getElem (by rw[Array.size_setIfInBounds,wA_size];exact h1),Array.getElem?_eq_getElem h2] at e1
    exact Option.some.inj e1
theorem wA_one (k:IntKind) (n:Nat) (L:List Int):(wA k n L).all (fun v=>v.oneCell')=true:=by
  simp[wA,Value.oneCell']
def spL2 (b:Nat→Int):Nat→List Int
  |0=> []
  |i+1=>spL2 b i ++ [if i<16 then b i else mx2 (spL2 b i) i]
theorem spL2_len (b:Nat→Int):∀ i,(spL2 b i).length=i
  |0=>rfl
  |i+1=>by rw[spL2,List.length_append,spL2_len b i];rfl
theorem spL2_lt {b:Nat→Int} {i:Nat} (h:i<16):spL2 b (i+1)=spL2 b i ++ [b i]:=by rw[spL2,if_pos h]
theorem spL2_ge {b:Nat→Int} {i:Nat} (h:¬ i<16):spL2 b (i+1)=spL2 b i ++ [mx2 (spL2 b i) i]:=by rw[spL2,if_neg h]
def spM2 (a:Array Value) (t:Tq) (L:List Int):List Mb:= [(a,t),(wA .u32 64 [],(64,(0,0))),(wA .u32 64 L,(64,(0,0)))]
theorem sp2_l1 (a:Array Value) (t:Tq) (o l cp:Nat) (hb:bytesAt a o 64) (hl:64≤l) (hc:l≤cp) (j0:Nat→Value) :Runs Tryd.prog (.loop (cAt [1,1,0,1,0,0] (bdy Tryd.f43))) ⟨sp2T_a a t o l cp [] 0 j0,spM2 a t [],c0,ch0⟩ (fun e s=>e= .exit 0∧∃ j c ch,s=⟨sp2T_a a t o l cp [] 16 j,spM2 a t (spL2 (fun i=>wd2 a (o+4*i)) 16),c,ch⟩) 1:=by
  generalize hB:(fun i=>wd2 a (o+4*i))=b
  refine runs_loop (fun M s=>∃ i j c ch,i≤16∧M=16 - i∧s=⟨sp2T_a a t o l cp [] i j,spM2 a t (spL2 b i),c,ch⟩) 16 ⟨0,j0,c0,ch0,by omega,rfl,rfl⟩ ?_
  rintro M s ⟨i,j,c,ch,hi,rfl,rfl⟩
  have hlen:=spL2_len b i
  by_cases h:i<16
  · have hoff : (if cp = Int.toNat ((4 * i : Nat) : Int) then o else o + (Int.toNat ((4 * i : Nat) : Int)) * 1) = o + 4 * i := by rw [Int.toNat_natCast, if_neg (by omega), Nat.mul_one]
    refine(sp2T_r a t o l cp (spL2 b i) i j ⟨trivial,by rw[wi (by omega) (by omega)];omega⟩ ⟨(tt1 (by omega)),by omega,hc⟩ ⟨⟨by rw[hoff];exact hb.sub (by omega),by omega⟩,by omega⟩ ⟨by omega,by omega⟩ (wA_set (by omega) (by omega)) ⟨trivial,by rw[wi (by omega) (by omega)];omega⟩ (decide_eq_true (by omega))).mono ?_
    rintro e s ⟨rfl,c,ch,hs⟩
    refine .inl ⟨rfl,16 - (i+1),by omega,i+1,fun q=>s.tm.getD q undef,c,ch,by omega,rfl,?_⟩
    rw[hoff] at hs
    have e1:spL2 b (i+1)=spL2 b i ++ [wd2 a (o+4*i)]:=by rw[spL2_lt h,← hB]
    rw[e1]
    subst hs
    rfl
  · have : i = 16 := by omega
    subst this
    refine(sp2X_r a t o l cp (spL2 b 16) 16 j (decide_eq_false (by omega))).mono ?_
    rintro e s ⟨rfl,c,ch,hs⟩
    refine .inr ⟨by simp,rfl,fun q=>s.tm.getD q undef,c,ch,?_⟩
    subst hs
    rfl
theorem sp2_l2 (a:Array Value) (t:Tq) (o l cp:Nat) (b:Nat→Int) (j0:Nat→Value) :Runs Tryd.prog (.loop (cAt [1,1,1,0,1,0,0] (bdy Tryd.f43))) ⟨sp2U_a a t o l cp [] 16 j0,spM2 a t (spL2 b 16),c0,ch0⟩ (fun e s=>e= .exit 2∧∃ j c ch,s=⟨sp2U_a a t o l cp [] 64 j,spM2 a t (spL2 b 64),c,ch⟩) 1:=by
  refine runs_loop (fun M s=>∃ i j c ch,16≤i∧i≤64∧M=64 - i∧s=⟨sp2U_a a t o l cp [] i j,spM2 a t (spL2 b i),c,ch⟩) (64 - 16) ⟨16,j0,c0,ch0,by omega,by omega,rfl,rfl⟩ ?_
  rintro M s ⟨i,j,c,ch,h16,hi,rfl,rfl⟩
  have hlen:=spL2_len b i
  by_cases h:i<64
  · refine (sp2U_r a t o l cp (spL2 b i) i j ⟨trivial, by rw [wi (by omega) (by omega)]; omega⟩ ⟨by omega, by omega⟩ ⟨wA_get (by omega) (by omega), rfl⟩ ⟨trivial, by rw [wi (by omega) (by omega)]; omega⟩ ⟨by omega, by omega⟩ ⟨wA_get (by omega) (by omega), rfl⟩ ⟨trivial, by rw [wi (by omega) (by omega)]; omega⟩ ⟨by omega, by omega⟩ ⟨wA_get (by omega) (by omega), rfl⟩ ⟨trivial, by rw [wi (by omega) (by omega)]; omega⟩ ⟨by omega, by omega⟩ ⟨wA_get (by omega) (by omega), rfl⟩ ⟨by omega, by omega⟩ (wA_set (by omega) (by omega)) ⟨trivial, by rw [wi (by omega) (by omega)]; omega⟩ (decide_eq_true (by omega))).mono ?_
    rintro e s ⟨rfl,c,ch,hs⟩
    refine .inl ⟨rfl,64 - (i+1),by omega,i+1,fun q=>s.tm.getD q undef,c,ch,by omega,by omega,rfl,?_⟩
    rw[spL2_ge (by omega)]
    subst hs
    rfl
  · have : i = 64 := by omega
    subst this
    refine(sp2Y_r a t o l cp (spL2 b 64) 64 j (decide_eq_false (by omega))).mono ?_
    rintro e s ⟨rfl,c,ch,hs⟩
    refine .inr ⟨by simp,rfl,fun q=>s.tm.getD q undef,c,ch,?_⟩
    subst hs
    rfl
theorem sp2_shape:(bdy Tryd.f43)= .seq (cAt [0] (bdy Tryd.f43)) (.seq (cAt [1,0] (bdy Tryd.f43)) (.seq (.seq (cAt [1,1,0,0] (bdy Tryd.f43)) (.block 0 (.loop (cAt [1,1,0,1,0,0] (bdy Tryd.f43))))) (.seq (.seq (cAt [1,1,1,0,0] (bdy Tryd.f43)) (.block 2 (.loop (cAt [1,1,1,0,1,0,0] (bdy Tryd.f43))))) (cAt [1,1,1,1] (bdy Tryd.f43))))):=by kernel_rfl
theorem Spread2_c (a:Array Value) (t:Tq) (o l cp:Nat) (hb:bytesAt a o 64) (hl:64≤l) (hc:l≤cp):Reads Tryd.prog 43 [(a,t)] [.slice (some ⟨0,o,none⟩) l cp] (.agg (wA .u32 64 (spL2 (fun i=>wd2 a (o+4*i)) 64))):=by
  refine reads_runs (fk:=1) (yty.enf tabS4 1) Tryd.func43 (c:=(bdy Tryd.f43)) (by kernel_rfl) ⟨rfl,by decide⟩ rfl (K:=fun e s=>e= .ret∧resS (yty.enf tabS4 1) s Tryd.f43.results.toList=some [.agg (wA .u32 64 (spL2 (fun i=>wd2 a (o+4*i)) 64))]) ?_ (fun e s h=>⟨h.1,_,h.2,rfl⟩)
  rw[sp2_shape]
  refine runs_seq (sp2A_r a t o l cp) (fun s h=> ?_) (fun e s hne h=>absurd h.1 hne)
  obtain⟨_,c,ch,rfl⟩:=h
  refine runs_seq (sp2B_r a t o l cp) (fun s h=> ?_) (fun e s hne h=>absurd h.1 hne)
  obtain⟨_,c,ch,rfl⟩:=h
  refine runs_seq (K1:=fun e s=>e= .normal∧∃ j c ch,s=⟨sp2T_a a t o l cp [] 16 j,spM2 a t (spL2 (fun i=>wd2 a (o+4*i)) 16),c,ch⟩) ?_ (fun s h=> ?_) (fun e s hne h=>absurd h.1 hne)
  · refine runs_seq (sp2C_r a t o l cp) (fun s h => ?_) (fun e s hne h => absurd h.1 hne)
    obtain⟨_,c,ch,hs⟩:=h
    have hs':s=⟨sp2T_a a t o l cp [] 0 (fun q=>s.tm.getD q undef),spM2 a t [],c,ch⟩:=by subst hs;rfl
    rw[hs']
    refine runs_block (sp2_l1 a t o l cp hb hl hc _) ?_
    rintro e s ⟨rfl,h⟩
    exact .inl ⟨rfl,rfl,h⟩
  obtain⟨_,j,c,ch,rfl⟩:=h
  refine runs_seq (K1:=fun e s=>e= .normal∧∃ j c ch,s=⟨sp2U_a a t o l cp [] 64 j,spM2 a t (spL2 (fun i=>wd2 a (o+4*i)) 64),c,ch⟩) ?_ (fun s h=> ?_) (fun e s hne h=>absurd h.1 hne)
  · have hs0 : sp2T_a a t o l cp [] 16 j = sp2D_a a t o l cp (spL2 (fun i => wd2 a (o + 4 * i)) 16) 16 (fun q => (sp2T_a a t o l cp [] 16 j).getD q undef) := rfl
    rw[hs0]
    refine runs_seq (sp2D_r a t o l cp _ 16 _) (fun s h=> ?_) (fun e s hne h=>absurd h.1 hne)
    obtain⟨_,c,ch,hs⟩:=h
    have hs':s=⟨sp2U_a a t o l cp [] 16 (fun q=>s.tm.getD q undef),spM2 a t (spL2 (fun i=>wd2 a (o+4*i)) 16),c,ch⟩:=by subst hs;rfl
    rw[hs']
    refine runs_block (sp2_l2 a t o l cp _ _) ?_
    rintro e s ⟨rfl,h⟩
    exact .inl ⟨rfl,rfl,h⟩
  obtain⟨_,j,c,ch,rfl⟩:=h
  have hs0:sp2U_a a t o l cp [] 64 j=sp2Z_a a t o l cp (spL2 (fun i=>wd2 a (o+4*i)) 64) (fun q=>(sp2U_a a t o l cp [] 64 j).getD q undef):=rfl
  rw[hs0]
  refine(sp2Z_r a t o l cp _ _ (wA_one _ _ _)).mono ?_
  rintro e s ⟨rfl,c,ch,hs⟩
  subst hs
  exact⟨rfl,by kernel_rfl⟩
def pSp2:Entry Tryd.prog:=entSl Tryd.func43 (by kernel_rfl) (by kernel_rfl) (fun a o _=> .agg (wA .u32 64 (spL2 (fun i=>wd2 a (o+4*i)) 64))) (fun a o l=>bytesAt a o 64∧64≤l) (fun a t o l c h hc=>Spread2_c a t o l c h.1 h.2 hc)
def spL5 (b:Nat→Int):Nat→List Int
  |0=> []
  |i+1=>spL5 b i ++ [if i<16 then b i else mx5 (spL5 b i) i]
theorem spL5_len (b:Nat→Int):∀ i,(spL5 b i).length=i
  |0=>rfl
  |i+1=>by rw[spL5,List.length_append,spL5_len b i];rfl
theorem spL5_lt {b:Nat→Int} {i:Nat} (h:i<16):spL5 b (i+1)=spL5 b i ++ [b i]:=by rw[spL5,if_pos h]
theorem spL5_ge {b:Nat→Int} {i:Nat} (h:¬ i<16):spL5 b (i+1)=spL5 b i ++ [mx5 (spL5 b i) i]:=by rw[spL5,if_neg h]
def spM5 (a:Array Value) (t:Tq) (L:List Int):List Mb:= [(a,t),(wA .u64 80 [],(72,(0,0))),(wA .u64 80 L,(72,(0,0)))]
theorem sp5_l1 (a:Array Value) (t:Tq) (o l cp:Nat) (hb:bytesAt a o 128) (hl:128≤l) (hc:l≤cp) (j0:Nat→Value) :Runs Tryd.prog (.loop (cAt [1,1,0,1,0,0] (bdy Tryd.f53))) ⟨sp5T_a a t o l cp [] 0 j0,spM5 a t [],c0,ch0⟩ (fun e s=>e= .exit 0∧∃ j c ch,s=⟨sp5T_a a t o l cp [] 16 j,spM5 a t (spL5 (fun i=>wd5 a (o+8*i)) 16),c,ch⟩) 1:=by
  generalize hB:(fun i=>wd5 a (o+8*i))=b
  refine runs_loop (fun M s=>∃ i j c ch,i≤16∧M=16 - i∧s=⟨sp5T_a a t o l cp [] i j,spM5 a t (spL5 b i),c,ch⟩) 16 ⟨0,j0,c0,ch0,by omega,rfl,rfl⟩ ?_
  rintro M s ⟨i,j,c,ch,hi,rfl,rfl⟩
  have hlen:=spL5_len b i
  by_cases h:i<16
  · have hoff : (if cp = Int.toNat ((8 * i : Nat) : Int) then o else o + (Int.toNat ((8 * i : Nat) : Int)) * 1) = o + 8 * i := by rw [Int.toNat_natCast, if_neg (by omega), Nat.mul_one]
    refine(sp5T_r a t o l cp (spL5 b i) i j ⟨trivial,by rw[wi (by omega) (by omega)];omega⟩ ⟨(tt1 (by omega)),by omega,hc⟩ ⟨⟨by rw[hoff];exact hb.sub (by omega),by omega⟩,by omega⟩ ⟨by omega,by omega⟩ (wA_set (by omega) (by omega)) ⟨trivial,by rw[wi (by omega) (by omega)];omega⟩ (decide_eq_true (by omega))).mono ?_
    rintro e s ⟨rfl,c,ch,hs⟩
    refine .inl ⟨rfl,16 - (i+1),by omega,i+1,fun q=>s.tm.getD q undef,c,ch,by omega,rfl,?_⟩
    rw[hoff] at hs
    have e1:spL5 b (i+1)=spL5 b i ++ [wd5 a (o+8*i)]:=by rw[spL5_lt h,← hB]
    rw[e1]
    subst hs
    rfl
  · have : i = 16 := by omega
    subst this
    refine(sp5X_r a t o l cp (spL5 b 16) 16 j (decide_eq_false (by omega))).mono ?_
    rintro e s ⟨rfl,c,ch,hs⟩
    refine .inr ⟨by simp,rfl,fun q=>s.tm.getD q undef,c,ch,?_⟩
    subst hs
    rfl
theorem sp5_l2 (a:Array Value) (t:Tq) (o l cp:Nat) (b:Nat→Int) (j0:Nat→Value) :Runs Tryd.prog (.loop (cAt [1,1,1,0,1,0,0] (bdy Tryd.f53))) ⟨sp5U_a a t o l cp [] 16 j0,spM5 a t (spL5 b 16),c0,ch0⟩ (fun e s=>e= .exit 2∧∃ j c ch,s=⟨sp5U_a a t o l cp [] 80 j,spM5 a t (spL5 b 80),c,ch⟩) 1:=by
  refine runs_loop (fun M s=>∃ i j c ch,16≤i∧i≤80∧M=80 - i∧s=⟨sp5U_a a t o l cp [] i j,spM5 a t (spL5 b i),c,ch⟩) (80 - 16) ⟨16,j0,c0,ch0,by omega,by omega,rfl,rfl⟩ ?_
  rintro M s ⟨i,j,c,ch,h16,hi,rfl,rfl⟩
  have hlen:=spL5_len b i
  by_cases h:i<80
  · refine (sp5U_r a t o l cp (spL5 b i) i j ⟨trivial, by rw [wi (by omega) (by omega)]; omega⟩ ⟨by omega, by omega⟩ ⟨wA_get (by omega) (by omega), rfl⟩ ⟨trivial, by rw [wi (by omega) (by omega)]; omega⟩ ⟨by omega, by omega⟩ ⟨wA_get (by omega) (by omega), rfl⟩ ⟨trivial, by rw [wi (by omega) (by omega)]; omega⟩ ⟨by omega, by omega⟩ ⟨wA_get (by omega) (by omega), rfl⟩ ⟨trivial, by rw [wi (by omega) (by omega)]; omega⟩ ⟨by omega, by omega⟩ ⟨wA_get (by omega) (by omega), rfl⟩ ⟨by omega, by omega⟩ (wA_set (by omega) (by omega)) ⟨trivial, by rw [wi (by omega) (by omega)]; omega⟩ (decide_eq_true (by omega))).mono ?_
    rintro e s ⟨rfl,c,ch,hs⟩
    refine .inl ⟨rfl,80 - (i+1),by omega,i+1,fun q=>s.tm.getD q undef,c,ch,by omega,by omega,rfl,?_⟩
    rw[spL5_ge (by omega)]
    subst hs
    rfl
  · have : i = 80 := by omega
    subst this
    refine(sp5Y_r a t o l cp (spL5 b 80) 80 j (decide_eq_false (by omega))).mono ?_
    rintro e s ⟨rfl,c,ch,hs⟩
    refine .inr ⟨by simp,rfl,fun q=>s.tm.getD q undef,c,ch,?_⟩
    subst hs
    rfl
theorem sp5_shape:(bdy Tryd.f53)= .seq (cAt [0] (bdy Tryd.f53)) (.seq (cAt [1,0] (bdy Tryd.f53)) (.seq (.seq (cAt [1,1,0,0] (bdy Tryd.f53)) (.block 0 (.loop (cAt [1,1,0,1,0,0] (bdy Tryd.f53))))) (.seq (.seq (cAt [1,1,1,0,0] (bdy Tryd.f53)) (.block 2 (.loop (cAt [1,1,1,0,1,0,0] (bdy Tryd.f53))))) (cAt [1,1,1,1] (bdy Tryd.f53))))):=by kernel_rfl
theorem Spread5_c (a:Array Value) (t:Tq) (o l cp:Nat) (hb:bytesAt a o 128) (hl:128≤l) (hc:l≤cp):Reads Tryd.prog 53 [(a,t)] [.slice (some ⟨0,o,none⟩) l cp] (.agg (wA .u64 80 (spL5 (fun i=>wd5 a (o+8*i)) 80))):=by
  refine reads_runs (fk:=1) (yty.enf tabS4 1) Tryd.func53 (c:=(bdy Tryd.f53)) (by kernel_rfl) ⟨rfl,by decide⟩ rfl (K:=fun e s=>e= .ret∧resS (yty.enf tabS4 1) s Tryd.f53.results.toList=some [.agg (wA .u64 80 (spL5 (fun i=>wd5 a (o+8*i)) 80))]) ?_ (fun e s h=>⟨h.1,_,h.2,rfl⟩)
  rw[sp5_shape]
  refine runs_seq (sp5A_r a t o l cp) (fun s h=> ?_) (fun e s hne h=>absurd h.1 hne)
  obtain⟨_,c,ch,rfl⟩:=h
  refine runs_seq (sp5B_r a t o l cp) (fun s h=> ?_) (fun e s hne h=>absurd h.1 hne)
  obtain⟨_,c,ch,rfl⟩:=h
  refine runs_seq (K1:=fun e s=>e= .normal∧∃ j c ch,s=⟨sp5T_a a t o l cp [] 16 j,spM5 a t (spL5 (fun i=>wd5 a (o+8*i)) 16),c,ch⟩) ?_ (fun s h=> ?_) (fun e s hne h=>absurd h.1 hne)
  · refine runs_seq (sp5C_r a t o l cp) (fun s h => ?_) (fun e s hne h => absurd h.1 hne)
    obtain⟨_,c,ch,hs⟩:=h
    have hs':s=⟨sp5T_a a t o l cp [] 0 (fun q=>s.tm.getD q undef),spM5 a t [],c,ch⟩:=by subst hs;rfl
    rw[hs']
    refine runs_block (sp5_l1 a t o l cp hb hl hc _) ?_
    rintro e s ⟨rfl,h⟩
    exact .inl ⟨rfl,rfl,h⟩
  obtain⟨_,j,c,ch,rfl⟩:=h
  refine runs_seq (K1:=fun e s=>e= .normal∧∃ j c ch,s=⟨sp5U_a a t o l cp [] 80 j,spM5 a t (spL5 (fun i=>wd5 a (o+8*i)) 80),c,ch⟩) ?_ (fun s h=> ?_) (fun e s hne h=>absurd h.1 hne)
  · have hs0 : sp5T_a a t o l cp [] 16 j = sp5D_a a t o l cp (spL5 (fun i => wd5 a (o + 8 * i)) 16) 16 (fun q => (sp5T_a a t o l cp [] 16 j).getD q undef) := rfl
    rw[hs0]
    refine runs_seq (sp5D_r a t o l cp _ 16 _) (fun s h=> ?_) (fun e s hne h=>absurd h.1 hne)
    obtain⟨_,c,ch,hs⟩:=h
    have hs':s=⟨sp5U_a a t o l cp [] 16 (fun q=>s.tm.getD q undef),spM5 a t (spL5 (fun i=>wd5 a (o+8*i)) 16),c,ch⟩:=by subst hs;rfl
    rw[hs']
    refine runs_block (sp5_l2 a t o l cp _ _) ?_
    rintro e s ⟨rfl,h⟩
    exact .inl ⟨rfl,rfl,h⟩
  obtain⟨_,j,c,ch,rfl⟩:=h
  have hs0:sp5U_a a t o l cp [] 80 j=sp5Z_a a t o l cp (spL5 (fun i=>wd5 a (o+8*i)) 80) (fun q=>(sp5U_a a t o l cp [] 80 j).getD q undef):=rfl
  rw[hs0]
  refine(sp5Z_r a t o l cp _ _ (wA_one _ _ _)).mono ?_
  rintro e s ⟨rfl,c,ch,hs⟩
  subst hs
  exact⟨rfl,by kernel_rfl⟩
def pSp5:Entry Tryd.prog:=entSl Tryd.func53 (by kernel_rfl) (by kernel_rfl) (fun a o _=> .agg (wA .u64 80 (spL5 (fun i=>wd5 a (o+8*i)) 80))) (fun a o l=>bytesAt a o 128∧128≤l) (fun a t o l c h hc=>Spread5_c a t o l c h.1 h.2 hc)
def tabS5:List (Entry Tryd.prog):=pSp2 :: pSp5 :: tabS4
end Go.Proofs.YtcfnjcacdmkgbaaDoor
