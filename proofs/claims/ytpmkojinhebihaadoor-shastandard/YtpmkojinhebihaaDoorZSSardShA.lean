import Derived.Test.YtpmkojinhebihaaDoorZSSardEdEAll
import Derived.Test.YtpmkojinhebihaaDoorZSSardEvAll
set_option linter.unusedSimpArgs false
set_option linter.unusedVariables false
/-! SHA-2: words, turns, the four sums of a word. -/
namespace Go.Proofs.YtpmkojinhebihaaDoor
open Go.RowKit Go.Ev
section
variable {P:Program} {f:FuncId} {fn:Func} (hf:P.funcs[f]? =some fn) (hn:(fn.name == "runtime.NumGoroutine")=false) (hb:fn.body.isNone=false)
def ent2N (F : Int → Int → Value) {k k' : IntKind} (h : ∀ x y, Pure P f #[.int k x, .int k' y] (F x y)) : Entry P where
  f:=f
  g:=fun _ xs=>match xs with| [.int j x,.int j' y]=>some (F x y,j=k∧j'=k')|_=>none
  ok := fun _ xs u c e hc w β _ _ => by
    split at e
    · simp only [Option.some.injEq, Prod.mk.injEq] at e
      obtain⟨rfl,rfl⟩:=e
      obtain⟨rfl,rfl⟩:=hc
      exact h _ _ w
    · cases e
  call:=call_of hf hn hb
end
abbrev Tq:Type:=TypeId×(Nat×Nat)
def tab0:List (Entry Tryd.prog):= []
theorem wrap64_nn (n:Int):0≤IntKind.u64.wrap n:=by
  rw[IntKind.wrap_u64];exact Int.emod_nonneg _ (by decide)
theorem bits64_nn (op:BinOp) (a b:Int):0≤bits op .u64 a b:=by
  unfold bits;exact wrap64_nn _
def ro2_h (i:Nat):Hn:=⟨0,[],[],[],[]⟩
theorem ro2_0 (x k:Int):evF (yty.en tab0) ro2_h Tryd.f43 [.int .u32 x,.int .i64 k] []=some (.int .u32 (bits .or .u32 (IntKind.u32.wrap (x*2 ^ (min (Int.toNat (bits .and .u64 (IntKind.u64.wrap k) 31)) 32))) (x / 2 ^ (min (Int.toNat (IntKind.u64.wrap (32 - (bits .and .u64 (IntKind.u64.wrap k) 31)))) 32))),((((((((((((((True∧True)∧True)∧True)∧True)∧True)∧True)∧True)∧(0≤(bits .and .u64 (IntKind.u64.wrap k) 31)))∧True)∧True)∧True)∧(0≤(IntKind.u64.wrap (32 - (bits .and .u64 (IntKind.u64.wrap k) 31)))))∧True)∧True)):=by kernel_rfl
def ro2_F (x k:Int):Value:= .int .u32 (bits .or .u32 (IntKind.u32.wrap (x*2 ^ (min (Int.toNat (bits .and .u64 (IntKind.u64.wrap k) 31)) 32))) (x / 2 ^ (min (Int.toNat (IntKind.u64.wrap (32 - (bits .and .u64 (IntKind.u64.wrap k) 31)))) 32)))
set_option maxHeartbeats 4000000 in
theorem ro2_p (x k:Int):Pure Tryd.prog 43 #[.int .u32 x,.int .i64 k] (ro2_F x k):=by
  unfold ro2_F
  exact pure_of mixed Tryd.func43 _ (ro2_0 x k) rfl ⟨⟨⟨⟨⟨⟨⟨⟨⟨⟨⟨⟨⟨⟨trivial,trivial⟩,trivial⟩,trivial⟩,trivial⟩,trivial⟩,trivial⟩,trivial⟩,bits64_nn _ _ _⟩,trivial⟩,trivial⟩,trivial⟩,wrap64_nn _⟩,trivial⟩,trivial⟩
def ro5_h (i:Nat):Hn:=⟨0,[],[],[],[]⟩
theorem ro5_0 (x k:Int):evF (yty.en tab0) ro5_h Tryd.f48 [.int .u64 x,.int .i64 k] []=some (.int .u64 (bits .or .u64 (IntKind.u64.wrap (x*2 ^ (min (Int.toNat (bits .and .u64 (IntKind.u64.wrap k) 63)) 64))) (x / 2 ^ (min (Int.toNat (IntKind.u64.wrap (64 - (bits .and .u64 (IntKind.u64.wrap k) 63)))) 64))),((((((((((((((True∧True)∧True)∧True)∧True)∧True)∧True)∧True)∧(0≤(bits .and .u64 (IntKind.u64.wrap k) 63)))∧True)∧True)∧True)∧(0≤(IntKind.u64.wrap (64 - (bits .and .u64 (IntKind.u64.wrap k) 63)))))∧True)∧True)):=by kernel_rfl
def ro5_F (x k:Int):Value:= .int .u64 (bits .or .u64 (IntKind.u64.wrap (x*2 ^ (min (Int.toNat (bits .and .u64 (IntKind.u64.wrap k) 63)) 64))) (x / 2 ^ (min (Int.toNat (IntKind.u64.wrap (64 - (bits .and .u64 (IntKind.u64.wrap k) 63)))) 64)))
set_option maxHeartbeats 4000000 in
theorem ro5_p (x k:Int):Pure Tryd.prog 48 #[.int .u64 x,.int .i64 k] (ro5_F x k):=by
  unfold ro5_F
  exact pure_of mixed Tryd.func48 _ (ro5_0 x k) rfl ⟨⟨⟨⟨⟨⟨⟨⟨⟨⟨⟨⟨⟨⟨trivial,trivial⟩,trivial⟩,trivial⟩,trivial⟩,trivial⟩,trivial⟩,trivial⟩,bits64_nn _ _ _⟩,trivial⟩,trivial⟩,trivial⟩,wrap64_nn _⟩,trivial⟩,trivial⟩
def rl32 (x k:Int):Int:=bits .or .u32 (IntKind.u32.wrap (x*2 ^ min (Int.toNat (bits .and .u64 (IntKind.u64.wrap k) 31)) 32)) (x / 2 ^ min (Int.toNat (IntKind.u64.wrap (32 - bits .and .u64 (IntKind.u64.wrap k) 31))) 32)
def rl64 (x k:Int):Int:=bits .or .u64 (IntKind.u64.wrap (x*2 ^ min (Int.toNat (bits .and .u64 (IntKind.u64.wrap k) 63)) 64)) (x / 2 ^ min (Int.toNat (IntKind.u64.wrap (64 - bits .and .u64 (IntKind.u64.wrap k) 63))) 64)
def pRot2:Entry Tryd.prog:=ent2N Tryd.func43 (by kernel_rfl) (by kernel_rfl) (fun x k=> .int .u32 (rl32 x k)) (k:= .u32) (k':= .i64) (fun x k=>ro2_p x k)
def pRot5:Entry Tryd.prog:=ent2N Tryd.func48 (by kernel_rfl) (by kernel_rfl) (fun x k=> .int .u64 (rl64 x k)) (k:= .u64) (k':= .i64) (fun x k=>ro5_p x k)
def tabS1:List (Entry Tryd.prog):=pRot2 :: pRot5 :: []
def z2_h (i:Nat):Hn:=⟨0,[],[],[],[]⟩
theorem z2_0 (x:Int):evF (yty.en tabS1) z2_h Tryd.f33 [.int .u32 x] []=some (.int .u32 (bits .xor .u32 (bits .xor .u32 (rl32 x (-2)) (rl32 x (-13))) (rl32 x (-22))),((((((((((True∧True)∧True)∧(IntKind.u32=IntKind.u32∧IntKind.i64=IntKind.i64))∧True)∧(IntKind.u32=IntKind.u32∧IntKind.i64=IntKind.i64))∧True)∧True)∧(IntKind.u32=IntKind.u32∧IntKind.i64=IntKind.i64))∧True)∧True)):=by kernel_rfl
def z2_F (x:Int):Value:= .int .u32 (bits .xor .u32 (bits .xor .u32 (rl32 x (-2)) (rl32 x (-13))) (rl32 x (-22)))
set_option maxHeartbeats 4000000 in
theorem z2_p (x:Int):Pure Tryd.prog 33 #[.int .u32 x] (z2_F x):=by
  unfold z2_F
  exact pure_of mixed Tryd.func33 _ (z2_0 x) rfl ⟨⟨⟨⟨⟨⟨⟨⟨⟨⟨trivial,trivial⟩,trivial⟩,⟨rfl,rfl⟩⟩,trivial⟩,⟨rfl,rfl⟩⟩,trivial⟩,trivial⟩,⟨rfl,rfl⟩⟩,trivial⟩,trivial⟩
def o2_h (i:Nat):Hn:=⟨0,[],[],[],[]⟩
theorem o2_0 (x:Int):evF (yty.en tabS1) o2_h Tryd.f32 [.int .u32 x] []=some (.int .u32 (bits .xor .u32 (bits .xor .u32 (rl32 x (-6)) (rl32 x (-11))) (rl32 x (-25))),((((((((((True∧True)∧True)∧(IntKind.u32=IntKind.u32∧IntKind.i64=IntKind.i64))∧True)∧(IntKind.u32=IntKind.u32∧IntKind.i64=IntKind.i64))∧True)∧True)∧(IntKind.u32=IntKind.u32∧IntKind.i64=IntKind.i64))∧True)∧True)):=by kernel_rfl
def o2_F (x:Int):Value:= .int .u32 (bits .xor .u32 (bits .xor .u32 (rl32 x (-6)) (rl32 x (-11))) (rl32 x (-25)))
set_option maxHeartbeats 4000000 in
theorem o2_p (x:Int):Pure Tryd.prog 32 #[.int .u32 x] (o2_F x):=by
  unfold o2_F
  exact pure_of mixed Tryd.func32 _ (o2_0 x) rfl ⟨⟨⟨⟨⟨⟨⟨⟨⟨⟨trivial,trivial⟩,trivial⟩,⟨rfl,rfl⟩⟩,trivial⟩,⟨rfl,rfl⟩⟩,trivial⟩,trivial⟩,⟨rfl,rfl⟩⟩,trivial⟩,trivial⟩
def y2_h (i:Nat):Hn:=⟨0,[],[],[],[]⟩
theorem y2_0 (x:Int):evF (yty.en tabS1) y2_h Tryd.f42 [.int .u32 x] []=some (.int .u32 (bits .xor .u32 (bits .xor .u32 (rl32 x (-7)) (rl32 x (-18))) (x / 2 ^ (3))),((((((((((True∧True)∧True)∧(IntKind.u32=IntKind.u32∧IntKind.i64=IntKind.i64))∧True)∧(IntKind.u32=IntKind.u32∧IntKind.i64=IntKind.i64))∧True)∧True)∧((0:Int)≤3))∧True)∧True)):=by kernel_rfl
def y2_F (x:Int):Value:= .int .u32 (bits .xor .u32 (bits .xor .u32 (rl32 x (-7)) (rl32 x (-18))) (x / 2 ^ (3)))
set_option maxHeartbeats 4000000 in
theorem y2_p (x:Int):Pure Tryd.prog 42 #[.int .u32 x] (y2_F x):=by
  unfold y2_F
  exact pure_of mixed Tryd.func42 _ (y2_0 x) rfl ⟨⟨⟨⟨⟨⟨⟨⟨⟨⟨trivial,trivial⟩,trivial⟩,⟨rfl,rfl⟩⟩,trivial⟩,⟨rfl,rfl⟩⟩,trivial⟩,trivial⟩,(by decide)⟩,trivial⟩,trivial⟩
def n2_h (i:Nat):Hn:=⟨0,[],[],[],[]⟩
theorem n2_0 (x:Int):evF (yty.en tabS1) n2_h Tryd.f41 [.int .u32 x] []=some (.int .u32 (bits .xor .u32 (bits .xor .u32 (rl32 x (-17)) (rl32 x (-19))) (x / 2 ^ (10))),((((((((((True∧True)∧True)∧(IntKind.u32=IntKind.u32∧IntKind.i64=IntKind.i64))∧True)∧(IntKind.u32=IntKind.u32∧IntKind.i64=IntKind.i64))∧True)∧True)∧((0:Int)≤10))∧True)∧True)):=by kernel_rfl
def n2_F (x:Int):Value:= .int .u32 (bits .xor .u32 (bits .xor .u32 (rl32 x (-17)) (rl32 x (-19))) (x / 2 ^ (10)))
set_option maxHeartbeats 4000000 in
theorem n2_p (x:Int):Pure Tryd.prog 41 #[.int .u32 x] (n2_F x):=by
  unfold n2_F
  exact pure_of mixed Tryd.func41 _ (n2_0 x) rfl ⟨⟨⟨⟨⟨⟨⟨⟨⟨⟨trivial,trivial⟩,trivial⟩,⟨rfl,rfl⟩⟩,trivial⟩,⟨rfl,rfl⟩⟩,trivial⟩,trivial⟩,(by decide)⟩,trivial⟩,trivial⟩
def z5_h (i:Nat):Hn:=⟨0,[],[],[],[]⟩
theorem z5_0 (x:Int):evF (yty.en tabS1) z5_h Tryd.f39 [.int .u64 x] []=some (.int .u64 (bits .xor .u64 (bits .xor .u64 (rl64 x (-28)) (rl64 x (-34))) (rl64 x (-39))),((((((((((True∧True)∧True)∧(IntKind.u64=IntKind.u64∧IntKind.i64=IntKind.i64))∧True)∧(IntKind.u64=IntKind.u64∧IntKind.i64=IntKind.i64))∧True)∧True)∧(IntKind.u64=IntKind.u64∧IntKind.i64=IntKind.i64))∧True)∧True)):=by kernel_rfl
def z5_F (x:Int):Value:= .int .u64 (bits .xor .u64 (bits .xor .u64 (rl64 x (-28)) (rl64 x (-34))) (rl64 x (-39)))
set_option maxHeartbeats 4000000 in
theorem z5_p (x:Int):Pure Tryd.prog 39 #[.int .u64 x] (z5_F x):=by
  unfold z5_F
  exact pure_of mixed Tryd.func39 _ (z5_0 x) rfl ⟨⟨⟨⟨⟨⟨⟨⟨⟨⟨trivial,trivial⟩,trivial⟩,⟨rfl,rfl⟩⟩,trivial⟩,⟨rfl,rfl⟩⟩,trivial⟩,trivial⟩,⟨rfl,rfl⟩⟩,trivial⟩,trivial⟩
def o5_h (i:Nat):Hn:=⟨0,[],[],[],[]⟩
theorem o5_0 (x:Int):evF (yty.en tabS1) o5_h Tryd.f38 [.int .u64 x] []=some (.int .u64 (bits .xor .u64 (bits .xor .u64 (rl64 x (-14)) (rl64 x (-18))) (rl64 x (-41))),((((((((((True∧True)∧True)∧(IntKind.u64=IntKind.u64∧IntKind.i64=IntKind.i64))∧True)∧(IntKind.u64=IntKind.u64∧IntKind.i64=IntKind.i64))∧True)∧True)∧(IntKind.u64=IntKind.u64∧IntKind.i64=IntKind.i64))∧True)∧True)):=by kernel_rfl
def o5_F (x:Int):Value:= .int .u64 (bits .xor .u64 (bits .xor .u64 (rl64 x (-14)) (rl64 x (-18))) (rl64 x (-41)))
set_option maxHeartbeats 4000000 in
theorem o5_p (x:Int):Pure Tryd.prog 38 #[.int .u64 x] (o5_F x):=by
  unfold o5_F
  exact pure_of mixed Tryd.func38 _ (o5_0 x) rfl ⟨⟨⟨⟨⟨⟨⟨⟨⟨⟨trivial,trivial⟩,trivial⟩,⟨rfl,rfl⟩⟩,trivial⟩,⟨rfl,rfl⟩⟩,trivial⟩,trivial⟩,⟨rfl,rfl⟩⟩,trivial⟩,trivial⟩
def y5_h (i:Nat):Hn:=⟨0,[],[],[],[]⟩
theorem y5_0 (x:Int):evF (yty.en tabS1) y5_h Tryd.f47 [.int .u64 x] []=some (.int .u64 (bits .xor .u64 (bits .xor .u64 (rl64 x (-1)) (rl64 x (-8))) (x / 2 ^ (7))),((((((((((True∧True)∧True)∧(IntKind.u64=IntKind.u64∧IntKind.i64=IntKind.i64))∧True)∧(IntKind.u64=IntKind.u64∧IntKind.i64=IntKind.i64))∧True)∧True)∧((0:Int)≤7))∧True)∧True)):=by kernel_rfl
def y5_F (x:Int):Value:= .int .u64 (bits .xor .u64 (bits .xor .u64 (rl64 x (-1)) (rl64 x (-8))) (x / 2 ^ (7)))
set_option maxHeartbeats 4000000 in
theorem y5_p (x:Int):Pure Tryd.prog 47 #[.int .u64 x] (y5_F x):=by
  unfold y5_F
  exact pure_of mixed Tryd.func47 _ (y5_0 x) rfl ⟨⟨⟨⟨⟨⟨⟨⟨⟨⟨trivial,trivial⟩,trivial⟩,⟨rfl,rfl⟩⟩,trivial⟩,⟨rfl,rfl⟩⟩,trivial⟩,trivial⟩,(by decide)⟩,trivial⟩,trivial⟩
def n5_h (i:Nat):Hn:=⟨0,[],[],[],[]⟩
theorem n5_0 (x:Int):evF (yty.en tabS1) n5_h Tryd.f46 [.int .u64 x] []=some (.int .u64 (bits .xor .u64 (bits .xor .u64 (rl64 x (-19)) (rl64 x (-61))) (x / 2 ^ (6))),((((((((((True∧True)∧True)∧(IntKind.u64=IntKind.u64∧IntKind.i64=IntKind.i64))∧True)∧(IntKind.u64=IntKind.u64∧IntKind.i64=IntKind.i64))∧True)∧True)∧((0:Int)≤6))∧True)∧True)):=by kernel_rfl
def n5_F (x:Int):Value:= .int .u64 (bits .xor .u64 (bits .xor .u64 (rl64 x (-19)) (rl64 x (-61))) (x / 2 ^ (6)))
set_option maxHeartbeats 4000000 in
theorem n5_p (x:Int):Pure Tryd.prog 46 #[.int .u64 x] (n5_F x):=by
  unfold n5_F
  exact pure_of mixed Tryd.func46 _ (n5_0 x) rfl ⟨⟨⟨⟨⟨⟨⟨⟨⟨⟨trivial,trivial⟩,trivial⟩,⟨rfl,rfl⟩⟩,trivial⟩,⟨rfl,rfl⟩⟩,trivial⟩,trivial⟩,(by decide)⟩,trivial⟩,trivial⟩
def gz2 (x:Int):Int:=bits .xor .u32 (bits .xor .u32 (rl32 x (-2)) (rl32 x (-13))) (rl32 x (-22))
def pgz2:Entry Tryd.prog:=entN Tryd.func33 (by kernel_rfl) (by kernel_rfl) (fun x=> .int .u32 (gz2 x)) (fun _=>True) (k:= .u32) (fun x _=>z2_p x)
def go2 (x:Int):Int:=bits .xor .u32 (bits .xor .u32 (rl32 x (-6)) (rl32 x (-11))) (rl32 x (-25))
def pgo2:Entry Tryd.prog:=entN Tryd.func32 (by kernel_rfl) (by kernel_rfl) (fun x=> .int .u32 (go2 x)) (fun _=>True) (k:= .u32) (fun x _=>o2_p x)
def sz2 (x:Int):Int:=bits .xor .u32 (bits .xor .u32 (rl32 x (-7)) (rl32 x (-18))) (x / 2 ^ 3)
def psz2:Entry Tryd.prog:=entN Tryd.func42 (by kernel_rfl) (by kernel_rfl) (fun x=> .int .u32 (sz2 x)) (fun _=>True) (k:= .u32) (fun x _=>y2_p x)
def so2 (x:Int):Int:=bits .xor .u32 (bits .xor .u32 (rl32 x (-17)) (rl32 x (-19))) (x / 2 ^ 10)
def pso2:Entry Tryd.prog:=entN Tryd.func41 (by kernel_rfl) (by kernel_rfl) (fun x=> .int .u32 (so2 x)) (fun _=>True) (k:= .u32) (fun x _=>n2_p x)
def gz5 (x:Int):Int:=bits .xor .u64 (bits .xor .u64 (rl64 x (-28)) (rl64 x (-34))) (rl64 x (-39))
def pgz5:Entry Tryd.prog:=entN Tryd.func39 (by kernel_rfl) (by kernel_rfl) (fun x=> .int .u64 (gz5 x)) (fun _=>True) (k:= .u64) (fun x _=>z5_p x)
def go5 (x:Int):Int:=bits .xor .u64 (bits .xor .u64 (rl64 x (-14)) (rl64 x (-18))) (rl64 x (-41))
def pgo5:Entry Tryd.prog:=entN Tryd.func38 (by kernel_rfl) (by kernel_rfl) (fun x=> .int .u64 (go5 x)) (fun _=>True) (k:= .u64) (fun x _=>o5_p x)
def sz5 (x:Int):Int:=bits .xor .u64 (bits .xor .u64 (rl64 x (-1)) (rl64 x (-8))) (x / 2 ^ 7)
def psz5:Entry Tryd.prog:=entN Tryd.func47 (by kernel_rfl) (by kernel_rfl) (fun x=> .int .u64 (sz5 x)) (fun _=>True) (k:= .u64) (fun x _=>y5_p x)
def so5 (x:Int):Int:=bits .xor .u64 (bits .xor .u64 (rl64 x (-19)) (rl64 x (-61))) (x / 2 ^ 6)
def pso5:Entry Tryd.prog:=entN Tryd.func46 (by kernel_rfl) (by kernel_rfl) (fun x=> .int .u64 (so5 x)) (fun _=>True) (k:= .u64) (fun x _=>n5_p x)
def tabS2:List (Entry Tryd.prog):=pgz2 :: pgo2 :: psz2 :: pso2 :: pgz5 :: pgo5 :: psz5 :: pso5 :: tabS1
def iat (a:Array Value) (k:Nat):Int:=match a[k]? with
  |some (.int _ n)=>n
  |_=>0
def bytesAt (a:Array Value) (o n:Nat):Prop:=∀ j,j<n→a[o+j]? =some (.int .u8 (iat a (o+j)))∧0≤iat a (o+j)∧iat a (o+j)<256
theorem bytesAt.at {a:Array Value} {o n:Nat} (h:bytesAt a o n) {j:Nat} (hj:j<n):a[o+j]? =some (.int .u8 (iat a (o+j))):=(h j hj).1
def w2_h (i:Nat):Hn:=if i=1 then⟨23,[],[],[],[]⟩ else⟨0,[],[],[],[]⟩
theorem w2_0 (a:Array Value) (t:Tq) (o l c:Nat):evG (yty.enf tabS2 1) w2_h Tryd.f40 [(a,t)] [.slice (some ⟨0,o,none⟩) l c] [some (.int .u8 (iat a (o+0))),none,none,some (.int .u8 (iat a (o+1))),none,none,none,some (.int .u8 (iat a (o+2))),none,none,none,some (.int .u8 (iat a (o+3)))]=some (.int .u32 (bits .or .u32 (bits .or .u32 (bits .or .u32 (IntKind.u32.wrap ((IntKind.u32.wrap (iat a (o+0)))*2 ^ (24))) (IntKind.u32.wrap ((IntKind.u32.wrap (iat a (o+1)))*2 ^ (16)))) (IntKind.u32.wrap ((IntKind.u32.wrap (iat a (o+2)))*2 ^ (8)))) (IntKind.u32.wrap (iat a (o+3)))),((((((((((((((((((((((((True∧True)∧True)∧((0:Int)≤0∧(0:Int)<((l:Nat):Int)))∧((a[(o+Int.toNat 0*1)]? =some (.int .u8 (iat a (o+0))))∧(iat a (o+0))=(iat a (o+0))))∧True)∧((0:Int)≤24))∧True)∧((0:Int)≤1∧(1:Int)<((l:Nat):Int)))∧((a[(o+Int.toNat 1*1)]? =some (.int .u8 (iat a (o+1))))∧(iat a (o+1))=(iat a (o+1))))∧True)∧((0:Int)≤16))∧True)∧True)∧((0:Int)≤2∧(2:Int)<((l:Nat):Int)))∧((a[(o+Int.toNat 2*1)]? =some (.int .u8 (iat a (o+2))))∧(iat a (o+2))=(iat a (o+2))))∧True)∧((0:Int)≤8))∧True)∧True)∧((0:Int)≤3∧(3:Int)<((l:Nat):Int)))∧((a[(o+Int.toNat 3*1)]? =some (.int .u8 (iat a (o+3))))∧(iat a (o+3))=(iat a (o+3))))∧True)∧True)∧True)):=by kernel_rfl
def w2_F (a:Array Value) (t:Tq) (o l c:Nat):Value:= .int .u32 (bits .or .u32 (bits .or .u32 (bits .or .u32 (IntKind.u32.wrap ((IntKind.u32.wrap (iat a (o+0)))*2 ^ (24))) (IntKind.u32.wrap ((IntKind.u32.wrap (iat a (o+1)))*2 ^ (16)))) (IntKind.u32.wrap ((IntKind.u32.wrap (iat a (o+2)))*2 ^ (8)))) (IntKind.u32.wrap (iat a (o+3))))
set_option maxHeartbeats 4000000 in
theorem w2_p (a:Array Value) (t:Tq) (o l c:Nat) (hb:bytesAt a o 4) (hl:4≤l):Reads Tryd.prog 40 [(a,t)] [.slice (some ⟨0,o,none⟩) l c] (w2_F a t o l c):=by
  unfold w2_F
  exact reads_of (n:=1) mixed Tryd.func40 ⟨rfl,by decide⟩ _ (w2_0 a t o l c) rfl ⟨⟨⟨⟨⟨⟨⟨⟨⟨⟨⟨⟨⟨⟨⟨⟨⟨⟨⟨⟨⟨⟨⟨⟨trivial,trivial⟩,trivial⟩,⟨by decide,by omega⟩⟩,⟨hb.at (j:=0) (by decide),rfl⟩⟩,trivial⟩,(by decide)⟩,trivial⟩,⟨by decide,by omega⟩⟩,⟨hb.at (j:=1) (by decide),rfl⟩⟩,trivial⟩,(by decide)⟩,trivial⟩,trivial⟩,⟨by decide,by omega⟩⟩,⟨hb.at (j:=2) (by decide),rfl⟩⟩,trivial⟩,(by decide)⟩,trivial⟩,trivial⟩,⟨by decide,by omega⟩⟩,⟨hb.at (j:=3) (by decide),rfl⟩⟩,trivial⟩,trivial⟩,trivial⟩
theorem readsS {P:Program} {f:FuncId} {cs:Array Value} {t:Tq} {o l c:Nat} {v:Value} (h:Reads P f [(cs,t)] [.slice (some ⟨0,o,none⟩) l c] v) {mem:List Mb} {i:Nat} (hm:mem[i]? =some (cs,t)) {w:World} {β:Nat→Nat} (hw:Has w β mem):Calls P f ([Value.slice (some ⟨i,o,none⟩) l c].map (rn β)).toArray w (fun e w'=>e= .returned v∧Below w.heap.size w w'):=
  h w (fun _ => β i) (fun j x hx => by
    cases j with
    | zero =>
      simp only[List.getElem?_cons_zero,Option.some.injEq] at hx
      subst hx
      exact hw i _ hm
    |succ j=>simp at hx) (fun i h=>by simp at h)
section
variable {P:Program} {f:FuncId} {fn:Func} (hf:P.funcs[f]? =some fn) (hn:(fn.name == "runtime.NumGoroutine")=false) (hb:fn.body.isNone=false)
def entSl (F : Array Value → Nat → Nat → Value) (C : Array Value → Nat → Nat → Prop) (h : ∀ a t o l c, C a o l → l ≤ c → Reads P f [(a, t)] [.slice (some ⟨0, o, none⟩) l c] (F a o l)) : Entry P where
  f:=f
  g := fun mem xs => match xs with
    | [.slice (some ⟨i, o, none⟩) l c] => (match mem[i]? with
      |some (a,_)=>some (F a o l,(C a o l∧l≤c))
      |none=>none)
    |_=>none
  ok := fun mem xs v c e hc w β hw _ => by
    split at e
    · rename_i i o l c0
      split at e
      · rename_i a t hm
        simp only[Option.some.injEq,Prod.mk.injEq] at e
        obtain⟨rfl,rfl⟩:=e
        exact readsS (h a t o l c0 hc.1 hc.2) hm hw
      · cases e
    · cases e
  call:=call_of hf hn hb
end
def wd2 (a:Array Value) (o:Nat):Int:=bits .or .u32 (bits .or .u32 (bits .or .u32 (IntKind.u32.wrap ((IntKind.u32.wrap (iat a (o+0)))*2 ^ (24))) (IntKind.u32.wrap ((IntKind.u32.wrap (iat a (o+1)))*2 ^ (16)))) (IntKind.u32.wrap ((IntKind.u32.wrap (iat a (o+2)))*2 ^ (8)))) (IntKind.u32.wrap (iat a (o+3)))
def pw2:Entry Tryd.prog:=entSl Tryd.func40 (by kernel_rfl) (by kernel_rfl) (fun a o _=> .int .u32 (wd2 a o)) (fun a o l=>bytesAt a o 4∧4≤l) (fun a t o l c h _=>w2_p a t o l c h.1 h.2)
def tabS3:List (Entry Tryd.prog):=pw2 :: tabS2
theorem bytesAt.sub {a:Array Value} {o n:Nat} (h:bytesAt a o n) {k m:Nat} (hk:k+m≤n):bytesAt a (o+k) m:=fun j hj=>by
  have:=h (k+j) (by omega)
  rwa[← Nat.add_assoc] at this
def w5_h (i:Nat):Hn:=if i=1 then⟨10,[],[],[],[]⟩ else⟨0,[],[],[],[]⟩
theorem w5_0 (a:Array Value) (t:Tq) (o l c:Nat):evG (yty.enf tabS3 1) w5_h Tryd.f45 [(a,t)] [.slice (some ⟨0,o,none⟩) l c] []=some (.int .u64 (bits .or .u64 (IntKind.u64.wrap ((IntKind.u64.wrap (wd2 a o))*2 ^ (32))) (IntKind.u64.wrap (wd2 a (if c=4 then o else o+4*1)))),(((((((((((True∧True)∧True)∧((bytesAt a o 4∧4≤l)∧l≤c))∧True)∧((0:Int)≤32))∧True)∧((((0:Int)≤4)∧True)∧4≤l∧l≤c))∧((bytesAt a (if c=4 then o else o+4*1) 4∧4≤(l - 4))∧(l - 4)≤(c - 4)))∧True)∧True)∧True)):=by kernel_rfl
def w5_F (a:Array Value) (t:Tq) (o l c:Nat):Value:= .int .u64 (bits .or .u64 (IntKind.u64.wrap ((IntKind.u64.wrap (wd2 a o))*2 ^ (32))) (IntKind.u64.wrap (wd2 a (if c=4 then o else o+4*1))))
set_option maxHeartbeats 4000000 in
theorem w5_p (a:Array Value) (t:Tq) (o l c:Nat) (hb:bytesAt a o 8) (hl:8≤l) (hc:l≤c):Reads Tryd.prog 45 [(a,t)] [.slice (some ⟨0,o,none⟩) l c] (w5_F a t o l c):=by
  unfold w5_F
  exact reads_of (n:=1) mixed Tryd.func45 ⟨rfl,by decide⟩ _ (w5_0 a t o l c) rfl ⟨⟨⟨⟨⟨⟨⟨⟨⟨⟨⟨trivial,trivial⟩,trivial⟩,⟨⟨hb.sub (k:=0) (by decide),by omega⟩,hc⟩⟩,trivial⟩,(by decide)⟩,trivial⟩,⟨⟨(by decide),trivial⟩,(by omega),hc⟩⟩,⟨⟨by rw[if_neg (by omega)];exact hb.sub (k:=4) (by decide),by omega⟩,by omega⟩⟩,trivial⟩,trivial⟩,trivial⟩
def wd5 (a:Array Value) (o:Nat):Int:=bits .or .u64 (IntKind.u64.wrap ((IntKind.u64.wrap (wd2 a o))*2 ^ (32))) (IntKind.u64.wrap (wd2 a (o+4)))
theorem Word64_c (a:Array Value) (t:Tq) (o l c:Nat) (hb:bytesAt a o 8) (hl:8≤l) (hc:l≤c):Reads Tryd.prog 45 [(a,t)] [.slice (some ⟨0,o,none⟩) l c] (.int .u64 (wd5 a o)):=by
  have h:=w5_p a t o l c hb hl hc
  unfold w5_F at h
  rw[if_neg (by omega)] at h
  exact h
def pw5:Entry Tryd.prog:=entSl Tryd.func45 (by kernel_rfl) (by kernel_rfl) (fun a o _=> .int .u64 (wd5 a o)) (fun a o l=>bytesAt a o 8∧8≤l) (fun a t o l c h hc=>Word64_c a t o l c h.1 h.2 hc)
def tabS4:List (Entry Tryd.prog):=pw5 :: tabS3
end Go.Proofs.YtpmkojinhebihaaDoor
