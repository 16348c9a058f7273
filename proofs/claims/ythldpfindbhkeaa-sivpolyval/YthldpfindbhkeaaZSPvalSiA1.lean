import Derived.Test.YthldpfindbhkeaaZSPvalAeA
import Derived.Test.YthldpfindbhkeaaZSPvalAeD
set_option linter.unusedSimpArgs false
set_option linter.unusedVariables false
/-! siv: the small functions, Dot. -/
namespace Go.Proofs.Ythldpfindbhkeaa
open Go.RowKit Go.Ev
def tabV0:List (Entry Try.prog):= []
def dvL (l h:Int):Int:=bits .or .u64 (l / 2 ^ (1)) (IntKind.u64.wrap (h*2 ^ (63)))
def dvH (l h:Int):Int:=bits .xor .u64 (h / 2 ^ (1)) (bits .and .u64 16212958658533785600 (IntKind.u64.wrap (0 - (bits .and .u64 l 1))))
def or8 (f:Nat→Int):Nat→Int
  |0=>0
  |n+1=>bits .or .u64 (or8 f n) (IntKind.u64.wrap (IntKind.u64.wrap (f n)*2 ^ (8*n)))
def wlo (L:List Int):Int:=or8 (fun i=>L.getD i 0) 8
def whi (L:List Int):Int:=or8 (fun i=>L.getD (8+i) 0) 8
def jb (l:Int) (k:Nat):Int:=IntKind.u8.wrap (l / 2 ^ k)
theorem jb_b (l:Int) (k:Nat):0≤jb l k∧jb l k<256:=by
  unfold jb
  rw[IntKind.wrap_u8]
  omega
def jnL (l h:Int):List Int:=(List.range 16).map fun i=>if i<8 then jb l (8*i) else jb h (8*(i - 8))
theorem jnL_by (l h:Int):By (jnL l h):=by_ofFn fun i _=>by
  split<;>exact jb_b _ _
def sDv_h (i:Nat):Hn:=⟨0,[],[],[],[]⟩
def sDv_a (l h:Int):List Value:=([.int .u64 l,.int .u64 h] ++ (JU 16))
def sDv_b (l h:Int):List Value:=([.int .u64 l,.int .u64 h,undef,undef,.int .u64 (bits .or .u64 (l / 2 ^ (1)) (IntKind.u64.wrap (h*2 ^ (63)))),.int .u64 (bits .xor .u64 (h / 2 ^ (1)) (bits .and .u64 16212958658533785600 (IntKind.u64.wrap (0 - (bits .and .u64 l 1))))),.int .u64 l,.int .u64 (l / 2 ^ (1)),.int .u64 h,.int .u64 (IntKind.u64.wrap (h*2 ^ (63))),.int .u64 (bits .or .u64 (l / 2 ^ (1)) (IntKind.u64.wrap (h*2 ^ (63)))),.int .u64 h,.int .u64 (h / 2 ^ (1)),.int .u64 l,.int .u64 (bits .and .u64 l 1),.int .u64 (IntKind.u64.wrap (0 - (bits .and .u64 l 1))),.int .u64 (bits .and .u64 16212958658533785600 (IntKind.u64.wrap (0 - (bits .and .u64 l 1)))),.int .u64 (bits .xor .u64 (h / 2 ^ (1)) (bits .and .u64 16212958658533785600 (IntKind.u64.wrap (0 - (bits .and .u64 l 1)))))])
theorem sDv_0 (l h:Int):evC (yty.en tabV0) sDv_h (cAt [] (bdy Try.f25)) ⟨sDv_a l h,[],True,[]⟩=some (.ret,⟨sDv_b l h,[],((((((((((((((((True∧True)∧True)∧True)∧((0:Int)≤1))∧True)∧((0:Int)≤63))∧True)∧True)∧((0:Int)≤1))∧True)∧True)∧True)∧True)∧True)∧True)∧True),[]⟩):=by kernel_rfl
theorem sDv_c (l h:Int):Pure Try.prog 25 #[.int .u64 l,.int .u64 h] (.tuple #[.int .u64 (dvL l h),.int .u64 (dvH l h)]):=by
  refine pure_runs (E:=(yty.en tabV0)) Try.func25 (c:=bdy Try.f25) (by kernel_rfl) (args:= [.int .u64 l,.int .u64 h]) (by kernel_rfl) (K:=fun e s=>e= .ret∧resS (yty.en tabV0) s Try.f25.results.toList=some [.int .u64 (dvL l h),.int .u64 (dvH l h)]) ?_ (fun e s h=>⟨h.1,_,h.2,rfl⟩)
  refine(runs_ev mixed _ (sDv_0 l h) ⟨⟨⟨⟨⟨⟨⟨⟨⟨⟨⟨⟨⟨⟨⟨⟨trivial,trivial⟩,trivial⟩,trivial⟩,(by decide)⟩,trivial⟩,(by decide)⟩,trivial⟩,trivial⟩,(by decide)⟩,trivial⟩,trivial⟩,trivial⟩,trivial⟩,trivial⟩,trivial⟩,trivial⟩).mono ?_
  rintro e s ⟨rfl,rfl⟩
  exact⟨rfl,by kernel_rfl⟩
def sWd_h (i:Nat):Hn:=⟨0,[],[],[],[]⟩
def sWd_a (L:List Int):List Value:=([.agg (wA .u8 16 L)] ++ (JU 29))
def sWd_b (L:List Int):List Value:=([.agg (wA .u8 16 L),.pointer (some ⟨0,0,none⟩),.int .u64 (bits .or .u64 (bits .or .u64 (bits .or .u64 (bits .or .u64 (bits .or .u64 (bits .or .u64 (bits .or .u64 (bits .or .u64 0 (IntKind.u64.wrap ((IntKind.u64.wrap (L.getD 0 0))*2 ^ (0)))) (IntKind.u64.wrap ((IntKind.u64.wrap (L.getD 1 0))*2 ^ (8)))) (IntKind.u64.wrap ((IntKind.u64.wrap (L.getD 2 0))*2 ^ (16)))) (IntKind.u64.wrap ((IntKind.u64.wrap (L.getD 3 0))*2 ^ (24)))) (IntKind.u64.wrap ((IntKind.u64.wrap (L.getD 4 0))*2 ^ (32)))) (IntKind.u64.wrap ((IntKind.u64.wrap (L.getD 5 0))*2 ^ (40)))) (IntKind.u64.wrap ((IntKind.u64.wrap (L.getD 6 0))*2 ^ (48)))) (IntKind.u64.wrap ((IntKind.u64.wrap (L.getD 7 0))*2 ^ (56)))),.int .u64 (bits .or .u64 (bits .or .u64 (bits .or .u64 (bits .or .u64 (bits .or .u64 (bits .or .u64 (bits .or .u64 (bits .or .u64 0 (IntKind.u64.wrap ((IntKind.u64.wrap (L.getD 8 0))*2 ^ (0)))) (IntKind.u64.wrap ((IntKind.u64.wrap (L.getD 9 0))*2 ^ (8)))) (IntKind.u64.wrap ((IntKind.u64.wrap (L.getD 10 0))*2 ^ (16)))) (IntKind.u64.wrap ((IntKind.u64.wrap (L.getD 11 0))*2 ^ (24)))) (IntKind.u64.wrap ((IntKind.u64.wrap (L.getD 12 0))*2 ^ (32)))) (IntKind.u64.wrap ((IntKind.u64.wrap (L.getD 13 0))*2 ^ (40)))) (IntKind.u64.wrap ((IntKind.u64.wrap (L.getD 14 0))*2 ^ (48)))) (IntKind.u64.wrap ((IntKind.u64.wrap (L.getD 15 0))*2 ^ (56)))),.int .i64 7,.int .i64 8,.bool false,.int .i64 7,.int .u64 (bits .or .u64 (bits .or .u64 (bits .or .u64 (bits .or .u64 (bits .or .u64 (bits .or .u64 (bits .or .u64 0 (IntKind.u64.wrap ((IntKind.u64.wrap (L.getD 0 0))*2 ^ (0)))) (IntKind.u64.wrap ((IntKind.u64.wrap (L.getD 1 0))*2 ^ (8)))) (IntKind.u64.wrap ((IntKind.u64.wrap (L.getD 2 0))*2 ^ (16)))) (IntKind.u64.wrap ((IntKind.u64.wrap (L.getD 3 0))*2 ^ (24)))) (IntKind.u64.wrap ((IntKind.u64.wrap (L.getD 4 0))*2 ^ (32)))) (IntKind.u64.wrap ((IntKind.u64.wrap (L.getD 5 0))*2 ^ (40)))) (IntKind.u64.wrap ((IntKind.u64.wrap (L.getD 6 0))*2 ^ (48)))),.int .i64 7,.pointer (some ⟨0,7,none⟩),.int .u8 (L.getD 7 0),.int .u64 (IntKind.u64.wrap (L.getD 7 0)),.int .i64 7,.int .i64 56,.int .u64 (IntKind.u64.wrap ((IntKind.u64.wrap (L.getD 7 0))*2 ^ (56))),.int .u64 (bits .or .u64 (bits .or .u64 (bits .or .u64 (bits .or .u64 (bits .or .u64 (bits .or .u64 (bits .or .u64 (bits .or .u64 0 (IntKind.u64.wrap ((IntKind.u64.wrap (L.getD 0 0))*2 ^ (0)))) (IntKind.u64.wrap ((IntKind.u64.wrap (L.getD 1 0))*2 ^ (8)))) (IntKind.u64.wrap ((IntKind.u64.wrap (L.getD 2 0))*2 ^ (16)))) (IntKind.u64.wrap ((IntKind.u64.wrap (L.getD 3 0))*2 ^ (24)))) (IntKind.u64.wrap ((IntKind.u64.wrap (L.getD 4 0))*2 ^ (32)))) (IntKind.u64.wrap ((IntKind.u64.wrap (L.getD 5 0))*2 ^ (40)))) (IntKind.u64.wrap ((IntKind.u64.wrap (L.getD 6 0))*2 ^ (48)))) (IntKind.u64.wrap ((IntKind.u64.wrap (L.getD 7 0))*2 ^ (56)))),.int .u64 (bits .or .u64 (bits .or .u64 (bits .or .u64 (bits .or .u64 (bits .or .u64 (bits .or .u64 (bits .or .u64 0 (IntKind.u64.wrap ((IntKind.u64.wrap (L.getD 8 0))*2 ^ (0)))) (IntKind.u64.wrap ((IntKind.u64.wrap (L.getD 9 0))*2 ^ (8)))) (IntKind.u64.wrap ((IntKind.u64.wrap (L.getD 10 0))*2 ^ (16)))) (IntKind.u64.wrap ((IntKind.u64.wrap (L.getD 11 0))*2 ^ (24)))) (IntKind.u64.wrap ((IntKind.u64.wrap (L.getD 12 0))*2 ^ (32)))) (IntKind.u64.wrap ((IntKind.u64.wrap (L.getD 13 0))*2 ^ (40)))) (IntKind.u64.wrap ((IntKind.u64.wrap (L.getD 14 0))*2 ^ (48)))),.int .i64 7,.int .i64 15,.pointer (some ⟨0,15,none⟩),.int .u8 (L.getD 15 0),.int .u64 (IntKind.u64.wrap (L.getD 15 0)),.int .i64 7,.int .i64 56,.int .u64 (IntKind.u64.wrap ((IntKind.u64.wrap (L.getD 15 0))*2 ^ (56))),.int .u64 (bits .or .u64 (bits .or .u64 (bits .or .u64 (bits .or .u64 (bits .or .u64 (bits .or .u64 (bits .or .u64 (bits .or .u64 0 (IntKind.u64.wrap ((IntKind.u64.wrap (L.getD 8 0))*2 ^ (0)))) (IntKind.u64.wrap ((IntKind.u64.wrap (L.getD 9 0))*2 ^ (8)))) (IntKind.u64.wrap ((IntKind.u64.wrap (L.getD 10 0))*2 ^ (16)))) (IntKind.u64.wrap ((IntKind.u64.wrap (L.getD 11 0))*2 ^ (24)))) (IntKind.u64.wrap ((IntKind.u64.wrap (L.getD 12 0))*2 ^ (32)))) (IntKind.u64.wrap ((IntKind.u64.wrap (L.getD 13 0))*2 ^ (40)))) (IntKind.u64.wrap ((IntKind.u64.wrap (L.getD 14 0))*2 ^ (48)))) (IntKind.u64.wrap ((IntKind.u64.wrap (L.getD 15 0))*2 ^ (56)))),.int .i64 8,.int .u64 (bits .or .u64 (bits .or .u64 (bits .or .u64 (bits .or .u64 (bits .or .u64 (bits .or .u64 (bits .or .u64 (bits .or .u64 0 (IntKind.u64.wrap ((IntKind.u64.wrap (L.getD 0 0))*2 ^ (0)))) (IntKind.u64.wrap ((IntKind.u64.wrap (L.getD 1 0))*2 ^ (8)))) (IntKind.u64.wrap ((IntKind.u64.wrap (L.getD 2 0))*2 ^ (16)))) (IntKind.u64.wrap ((IntKind.u64.wrap (L.getD 3 0))*2 ^ (24)))) (IntKind.u64.wrap ((IntKind.u64.wrap (L.getD 4 0))*2 ^ (32)))) (IntKind.u64.wrap ((IntKind.u64.wrap (L.getD 5 0))*2 ^ (40)))) (IntKind.u64.wrap ((IntKind.u64.wrap (L.getD 6 0))*2 ^ (48)))) (IntKind.u64.wrap ((IntKind.u64.wrap (L.getD 7 0))*2 ^ (56)))),.int .u64 (bits .or .u64 (bits .or .u64 (bits .or .u64 (bits .or .u64 (bits .or .u64 (bits .or .u64 (bits .or .u64 (bits .or .u64 0 (IntKind.u64.wrap ((IntKind.u64.wrap (L.getD 8 0))*2 ^ (0)))) (IntKind.u64.wrap ((IntKind.u64.wrap (L.getD 9 0))*2 ^ (8)))) (IntKind.u64.wrap ((IntKind.u64.wrap (L.getD 10 0))*2 ^ (16)))) (IntKind.u64.wrap ((IntKind.u64.wrap (L.getD 11 0))*2 ^ (24)))) (IntKind.u64.wrap ((IntKind.u64.wrap (L.getD 12 0))*2 ^ (32)))) (IntKind.u64.wrap ((IntKind.u64.wrap (L.getD 13 0))*2 ^ (40)))) (IntKind.u64.wrap ((IntKind.u64.wrap (L.getD 14 0))*2 ^ (48)))) (IntKind.u64.wrap ((IntKind.u64.wrap (L.getD 15 0))*2 ^ (56))))])
set_option maxRecDepth 100000 in
theorem sWd_0 (L:List Int):evC (yty.en tabV0) sWd_h (cAt [] (bdy Try.f24)) ⟨sWd_a L,[],True,[none,some (.int .u8 (L.getD 0 0)),none,none,none,none,none,some (.int .u8 (L.getD 8 0)),none,none,none,none,none,none,some (.int .u8 (L.getD 1 0)),none,none,none,none,none,some (.int .u8 (L.getD 9 0)),none,none,none,none,none,none,some (.int .u8 (L.getD 2 0)),none,none,none,none,none,some (.int .u8 (L.getD 10 0)),none,none,none,none,none,none,some (.int .u8 (L.getD 3 0)),none,none,none,none,none,some (.int .u8 (L.getD 11 0)),none,none,none,none,none,none,some (.int .u8 (L.getD 4 0)),none,none,none,none,none,some (.int .u8 (L.getD 12 0)),none,none,none,none,none,none,some (.int .u8 (L.getD 5 0)),none,none,none,none,none,some (.int .u8 (L.getD 13 0)),none,none,none,none,none,none,some (.int .u8 (L.getD 6 0)),none,none,none,none,none,some (.int .u8 (L.getD 14 0)),none,none,none,none,none,none,some (.int .u8 (L.getD 7 0)),none,none,none,none,none,some (.int .u8 (L.getD 15 0))]⟩=some (.ret,⟨sWd_b L,[((wA .u8 16 L),(22,(0,0)))],((((((((((((((((((((((((((((((((((((((((((((((((((((((((((((((((((((((((((((((((((((((((((((((((((((((((((((((((((((((((((((((((((((((((((((((((((((((((((((((((((((((((((((((((((((((((((((((((((((((((((((((((((((((((True∧True)∧True)∧True)∧True)∧True)∧True)∧True)∧True)∧((0:Int)≤0∧(0:Int)<((16:Nat):Int)))∧(((wA .u8 16 L)[0]? =some (.int .u8 (L.getD 0 0)))∧(L.getD 0 0)=(L.getD 0 0)))∧True)∧True)∧True)∧((0:Int)≤0))∧True)∧True)∧True)∧True)∧True)∧((0:Int)≤8∧(8:Int)<((16:Nat):Int)))∧(((wA .u8 16 L)[8]? =some (.int .u8 (L.getD 8 0)))∧(L.getD 8 0)=(L.getD 8 0)))∧True)∧True)∧True)∧((0:Int)≤0))∧True)∧True)∧True)∧True)∧True)∧True)∧True)∧True)∧True)∧((0:Int)≤1∧(1:Int)<((16:Nat):Int)))∧(((wA .u8 16 L)[1]? =some (.int .u8 (L.getD 1 0)))∧(L.getD 1 0)=(L.getD 1 0)))∧True)∧True)∧True)∧((0:Int)≤8))∧True)∧True)∧True)∧True)∧True)∧((0:Int)≤9∧(9:Int)<((16:Nat):Int)))∧(((wA .u8 16 L)[9]? =some (.int .u8 (L.getD 9 0)))∧(L.getD 9 0)=(L.getD 9 0)))∧True)∧True)∧True)∧((0:Int)≤8))∧True)∧True)∧True)∧True)∧True)∧True)∧True)∧True)∧True)∧((0:Int)≤2∧(2:Int)<((16:Nat):Int)))∧(((wA .u8 16 L)[2]? =some (.int .u8 (L.getD 2 0)))∧(L.getD 2 0)=(L.getD 2 0)))∧True)∧True)∧True)∧((0:Int)≤16))∧True)∧True)∧True)∧True)∧True)∧((0:Int)≤10∧(10:Int)<((16:Nat):Int)))∧(((wA .u8 16 L)[10]? =some (.int .u8 (L.getD 10 0)))∧(L.getD 10 0)=(L.getD 10 0)))∧True)∧True)∧True)∧((0:Int)≤16))∧True)∧True)∧True)∧True)∧True)∧True)∧True)∧True)∧True)∧((0:Int)≤3∧(3:Int)<((16:Nat):Int)))∧(((wA .u8 16 L)[3]? =some (.int .u8 (L.getD 3 0)))∧(L.getD 3 0)=(L.getD 3 0)))∧True)∧True)∧True)∧((0:Int)≤24))∧True)∧True)∧True)∧True)∧True)∧((0:Int)≤11∧(11:Int)<((16:Nat):Int)))∧(((wA .u8 16 L)[11]? =some (.int .u8 (L.getD 11 0)))∧(L.getD 11 0)=(L.getD 11 0)))∧True)∧True)∧True)∧((0:Int)≤24))∧True)∧True)∧True)∧True)∧True)∧True)∧True)∧True)∧True)∧((0:Int)≤4∧(4:Int)<((16:Nat):Int)))∧(((wA .u8 16 L)[4]? =some (.int .u8 (L.getD 4 0)))∧(L.getD 4 0)=(L.getD 4 0)))∧True)∧True)∧True)∧((0:Int)≤32))∧True)∧True)∧True)∧True)∧True)∧((0:Int)≤12∧(12:Int)<((16:Nat):Int)))∧(((wA .u8 16 L)[12]? =some (.int .u8 (L.getD 12 0)))∧(L.getD 12 0)=(L.getD 12 0)))∧True)∧True)∧True)∧((0:Int)≤32))∧True)∧True)∧True)∧True)∧True)∧True)∧True)∧True)∧True)∧((0:Int)≤5∧(5:Int)<((16:Nat):Int)))∧(((wA .u8 16 L)[5]? =some (.int .u8 (L.getD 5 0)))∧(L.getD 5 0)=(L.getD 5 0)))∧True)∧True)∧True)∧((0:Int)≤40))∧True)∧True)∧True)∧True)∧True)∧((0:Int)≤13∧(13:Int)<((16:Nat):Int)))∧(((wA .u8 16 L)[13]? =some (.int .u8 (L.getD 13 0)))∧(L.getD 13 0)=(L.getD 13 0)))∧True)∧True)∧True)∧((0:Int)≤40))∧True)∧True)∧True)∧True)∧True)∧True)∧True)∧True)∧True)∧((0:Int)≤6∧(6:Int)<((16:Nat):Int)))∧(((wA .u8 16 L)[6]? =some (.int .u8 (L.getD 6 0)))∧(L.getD 6 0)=(L.getD 6 0)))∧True)∧True)∧True)∧((0:Int)≤48))∧True)∧True)∧True)∧True)∧True)∧((0:Int)≤14∧(14:Int)<((16:Nat):Int)))∧(((wA .u8 16 L)[14]? =some (.int .u8 (L.getD 14 0)))∧(L.getD 14 0)=(L.getD 14 0)))∧True)∧True)∧True)∧((0:Int)≤48))∧True)∧True)∧True)∧True)∧True)∧True)∧True)∧True)∧True)∧((0:Int)≤7∧(7:Int)<((16:Nat):Int)))∧(((wA .u8 16 L)[7]? =some (.int .u8 (L.getD 7 0)))∧(L.getD 7 0)=(L.getD 7 0)))∧True)∧True)∧True)∧((0:Int)≤56))∧True)∧True)∧True)∧True)∧True)∧((0:Int)≤15∧(15:Int)<((16:Nat):Int)))∧(((wA .u8 16 L)[15]? =some (.int .u8 (L.getD 15 0)))∧(L.getD 15 0)=(L.getD 15 0)))∧True)∧True)∧True)∧((0:Int)≤56))∧True)∧True)∧True)∧True)∧True)∧True)∧True)∧True)∧True),[]⟩):=by kernel_rfl
set_option maxRecDepth 100000 in
set_option maxHeartbeats 4000000 in
theorem sWd_c (L:List Int) (hL:By L):Pure Try.prog 24 #[.agg (wA .u8 16 L)] (.tuple #[.int .u64 (wlo L),.int .u64 (whi L)]):=by
  refine pure_runs (E:=(yty.en tabV0)) Try.func24 (c:=bdy Try.f24) (by kernel_rfl) (args:= [.agg (wA .u8 16 L)]) (by kernel_rfl) (K:=fun e s=>e= .ret∧resS (yty.en tabV0) s Try.f24.results.toList=some [.int .u64 (wlo L),.int .u64 (whi L)]) ?_ (fun e s h=>⟨h.1,_,h.2,rfl⟩)
  refine(runs_ev mixed _ (sWd_0 L) ⟨⟨⟨⟨⟨⟨⟨⟨⟨⟨⟨⟨⟨⟨⟨⟨⟨⟨⟨⟨⟨⟨⟨⟨⟨⟨⟨⟨⟨⟨⟨⟨⟨⟨⟨⟨⟨⟨⟨⟨⟨⟨⟨⟨⟨⟨⟨⟨⟨⟨⟨⟨⟨⟨⟨⟨⟨⟨⟨⟨⟨⟨⟨⟨⟨⟨⟨⟨⟨⟨⟨⟨⟨⟨⟨⟨⟨⟨⟨⟨⟨⟨⟨⟨⟨⟨⟨⟨⟨⟨⟨⟨⟨⟨⟨⟨⟨⟨⟨⟨⟨⟨⟨⟨⟨⟨⟨⟨⟨⟨⟨⟨⟨⟨⟨⟨⟨⟨⟨⟨⟨⟨⟨⟨⟨⟨⟨⟨⟨⟨⟨⟨⟨⟨⟨⟨⟨⟨⟨⟨⟨⟨⟨⟨⟨⟨⟨⟨⟨⟨⟨⟨⟨⟨⟨⟨⟨⟨⟨⟨⟨⟨⟨⟨⟨⟨⟨⟨⟨⟨⟨⟨⟨⟨⟨⟨⟨⟨⟨⟨⟨⟨⟨⟨⟨⟨⟨⟨⟨⟨⟨⟨⟨⟨⟨⟨⟨⟨⟨⟨⟨⟨⟨⟨⟨⟨⟨⟨⟨⟨⟨⟨⟨⟨⟨⟨trivial,trivial⟩,trivial⟩,trivial⟩,trivial⟩,trivial⟩,trivial⟩,trivial⟩,trivial⟩,⟨by decide,by decide⟩⟩,⟨(wA_get (by omega) (by omega)),rfl⟩⟩,trivial⟩,trivial⟩,trivial⟩,(by decide)⟩,trivial⟩,trivial⟩,trivial⟩,trivial⟩,trivial⟩,⟨by decide,by decide⟩⟩,⟨(wA_get (by omega) (by omega)),rfl⟩⟩,trivial⟩,trivial⟩,trivial⟩,(by decide)⟩,trivial⟩,trivial⟩,trivial⟩,trivial⟩,trivial⟩,trivial⟩,trivial⟩,trivial⟩,trivial⟩,⟨by decide,by decide⟩⟩,⟨(wA_get (by omega) (by omega)),rfl⟩⟩,trivial⟩,trivial⟩,trivial⟩,(by decide)⟩,trivial⟩,trivial⟩,trivial⟩,trivial⟩,trivial⟩,⟨by decide,by decide⟩⟩,⟨(wA_get (by omega) (by omega)),rfl⟩⟩,trivial⟩,trivial⟩,trivial⟩,(by decide)⟩,trivial⟩,trivial⟩,trivial⟩,trivial⟩,trivial⟩,trivial⟩,trivial⟩,trivial⟩,trivial⟩,⟨by decide,by decide⟩⟩,⟨(wA_get (by omega) (by omega)),rfl⟩⟩,trivial⟩,trivial⟩,trivial⟩,(by decide)⟩,trivial⟩,trivial⟩,trivial⟩,trivial⟩,trivial⟩,⟨by decide,by decide⟩⟩,⟨(wA_get (by omega) (by omega)),rfl⟩⟩,trivial⟩,trivial⟩,trivial⟩,(by decide)⟩,trivial⟩,trivial⟩,trivial⟩,trivial⟩,trivial⟩,trivial⟩,trivial⟩,trivial⟩,trivial⟩,⟨by decide,by decide⟩⟩,⟨(wA_get (by omega) (by omega)),rfl⟩⟩,trivial⟩,trivial⟩,trivial⟩,(by decide)⟩,trivial⟩,trivial⟩,trivial⟩,trivial⟩,trivial⟩,⟨by decide,by decide⟩⟩,⟨(wA_get (by omega) (by omega)),rfl⟩⟩,trivial⟩,trivial⟩,trivial⟩,(by decide)⟩,trivial⟩,trivial⟩,trivial⟩,trivial⟩,trivial⟩,trivial⟩,trivial⟩,trivial⟩,trivial⟩,⟨by decide,by decide⟩⟩,⟨(wA_get (by omega) (by omega)),rfl⟩⟩,trivial⟩,trivial⟩,trivial⟩,(by decide)⟩,trivial⟩,trivial⟩,trivial⟩,trivial⟩,trivial⟩,⟨by decide,by decide⟩⟩,⟨(wA_get (by omega) (by omega)),rfl⟩⟩,trivial⟩,trivial⟩,trivial⟩,(by decide)⟩,trivial⟩,trivial⟩,trivial⟩,trivial⟩,trivial⟩,trivial⟩,trivial⟩,trivial⟩,trivial⟩,⟨by decide,by decide⟩⟩,⟨(wA_get (by omega) (by omega)),rfl⟩⟩,trivial⟩,trivial⟩,trivial⟩,(by decide)⟩,trivial⟩,trivial⟩,trivial⟩,trivial⟩,trivial⟩,⟨by decide,by decide⟩⟩,⟨(wA_get (by omega) (by omega)),rfl⟩⟩,trivial⟩,trivial⟩,trivial⟩,(by decide)⟩,trivial⟩,trivial⟩,trivial⟩,trivial⟩,trivial⟩,trivial⟩,trivial⟩,trivial⟩,trivial⟩,⟨by decide,by decide⟩⟩,⟨(wA_get (by omega) (by omega)),rfl⟩⟩,trivial⟩,trivial⟩,trivial⟩,(by decide)⟩,trivial⟩,trivial⟩,trivial⟩,trivial⟩,trivial⟩,⟨by decide,by decide⟩⟩,⟨(wA_get (by omega) (by omega)),rfl⟩⟩,trivial⟩,trivial⟩,trivial⟩,(by decide)⟩,trivial⟩,trivial⟩,trivial⟩,trivial⟩,trivial⟩,trivial⟩,trivial⟩,trivial⟩,trivial⟩,⟨by decide,by decide⟩⟩,⟨(wA_get (by omega) (by omega)),rfl⟩⟩,trivial⟩,trivial⟩,trivial⟩,(by decide)⟩,trivial⟩,trivial⟩,trivial⟩,trivial⟩,trivial⟩,⟨by decide,by decide⟩⟩,⟨(wA_get (by omega) (by omega)),rfl⟩⟩,trivial⟩,trivial⟩,trivial⟩,(by decide)⟩,trivial⟩,trivial⟩,trivial⟩,trivial⟩,trivial⟩,trivial⟩,trivial⟩,trivial⟩,trivial⟩).mono ?_
  rintro e s ⟨rfl,rfl⟩
  exact⟨rfl,by kernel_rfl⟩
def sJn_h (i:Nat):Hn:=⟨0,[],[],[],[]⟩
def sJn_a (l h:Int):List Value:=([.int .u64 l,.int .u64 h] ++ (JU 25))
def sJn_b (l h:Int):List Value:=([.int .u64 l,.int .u64 h,undef,undef,.pointer (some ⟨0,0,none⟩),.pointer (some ⟨1,0,none⟩),.int .i64 7,.int .i64 8,.bool false,.int .i64 7,.int .i64 7,.int .u64 l,.int .i64 7,.int .i64 56,.int .u64 (l / 2 ^ (56)),.int .u8 (jb l 56),.pointer (some ⟨1,7,none⟩),.int .i64 7,.int .i64 15,.int .u64 h,.int .i64 7,.int .i64 56,.int .u64 (h / 2 ^ (56)),.int .u8 (jb h 56),.pointer (some ⟨1,15,none⟩),.int .i64 8,.agg (wA .u8 16 [(jb l 0),(jb l 8),(jb l 16),(jb l 24),(jb l 32),(jb l 40),(jb l 48),(jb l 56),(jb h 0),(jb h 8),(jb h 16),(jb h 24),(jb h 32),(jb h 40),(jb h 48),(jb h 56)])])
set_option maxRecDepth 100000 in
theorem sJn_0 (l h:Int):evC (yty.en tabV0) sJn_h (cAt [] (bdy Try.f26)) ⟨sJn_a l h,[],True,[none,none,none,some (.int .u8 (jb l 0)),some (.agg (wA .u8 16 [(jb l 0),0,0,0,0,0,0,0,0,0,0,0,0,0,0,0])),none,none,none,some (.int .u8 (jb h 0)),some (.agg (wA .u8 16 [(jb l 0),0,0,0,0,0,0,0,(jb h 0),0,0,0,0,0,0,0])),none,none,none,none,some (.int .u8 (jb l 8)),some (.agg (wA .u8 16 [(jb l 0),(jb l 8),0,0,0,0,0,0,(jb h 0),0,0,0,0,0,0,0])),none,none,none,some (.int .u8 (jb h 8)),some (.agg (wA .u8 16 [(jb l 0),(jb l 8),0,0,0,0,0,0,(jb h 0),(jb h 8),0,0,0,0,0,0])),none,none,none,none,some (.int .u8 (jb l 16)),some (.agg (wA .u8 16 [(jb l 0),(jb l 8),(jb l 16),0,0,0,0,0,(jb h 0),(jb h 8),0,0,0,0,0,0])),none,none,none,some (.int .u8 (jb h 16)),some (.agg (wA .u8 16 [(jb l 0),(jb l 8),(jb l 16),0,0,0,0,0,(jb h 0),(jb h 8),(jb h 16),0,0,0,0,0])),none,none,none,none,some (.int .u8 (jb l 24)),some (.agg (wA .u8 16 [(jb l 0),(jb l 8),(jb l 16),(jb l 24),0,0,0,0,(jb h 0),(jb h 8),(jb h 16),0,0,0,0,0])),none,none,none,some (.int .u8 (jb h 24)),some (.agg (wA .u8 16 [(jb l 0),(jb l 8),(jb l 16),(jb l 24),0,0,0,0,(jb h 0),(jb h 8),(jb h 16),(jb h 24),0,0,0,0])),none,none,none,none,some (.int .u8 (jb l 32)),some (.agg (wA .u8 16 [(jb l 0),(jb l 8),(jb l 16),(jb l 24),(jb l 32),0,0,0,(jb h 0),(jb h 8),(jb h 16),(jb h 24),0,0,0,0])),none,none,none,some (.int .u8 (jb h 32)),some (.agg (wA .u8 16 [(jb l 0),(jb l 8),(jb l 16),(jb l 24),(jb l 32),0,0,0,(jb h 0),(jb h 8),(jb h 16),(jb h 24),(jb h 32),0,0,0])),none,none,none,none,some (.int .u8 (jb l 40)),some (.agg (wA .u8 16 [(jb l 0),(jb l 8),(jb l 16),(jb l 24),(jb l 32),(jb l 40),0,0,(jb h 0),(jb h 8),(jb h 16),(jb h 24),(jb h 32),0,0,0])),none,none,none,some (.int .u8 (jb h 40)),some (.agg (wA .u8 16 [(jb l 0),(jb l 8),(jb l 16),(jb l 24),(jb l 32),(jb l 40),0,0,(jb h 0),(jb h 8),(jb h 16),(jb h 24),(jb h 32),(jb h 40),0,0])),none,none,none,none,some (.int .u8 (jb l 48)),some (.agg (wA .u8 16 [(jb l 0),(jb l 8),(jb l 16),(jb l 24),(jb l 32),(jb l 40),(jb l 48),0,(jb h 0),(jb h 8),(jb h 16),(jb h 24),(jb h 32),(jb h 40),0,0])),none,none,none,some (.int .u8 (jb h 48)),some (.agg (wA .u8 16 [(jb l 0),(jb l 8),(jb l 16),(jb l 24),(jb l 32),(jb l 40),(jb l 48),0,(jb h 0),(jb h 8),(jb h 16),(jb h 24),(jb h 32),(jb h 40),(jb h 48),0])),none,none,none,none,some (.int .u8 (jb l 56)),some (.agg (wA .u8 16 [(jb l 0),(jb l 8),(jb l 16),(jb l 24),(jb l 32),(jb l 40),(jb l 48),(jb l 56),(jb h 0),(jb h 8),(jb h 16),(jb h 24),(jb h 32),(jb h 40),(jb h 48),0])),none,none,none,some (.int .u8 (jb h 56)),some (.agg (wA .u8 16 [(jb l 0),(jb l 8),(jb l 16),(jb l 24),(jb l 32),(jb l 40),(jb l 48),(jb l 56),(jb h 0),(jb h 8),(jb h 16),(jb h 24),(jb h 32),(jb h 40),(jb h 48),(jb h 56)]))]⟩=some (.ret,⟨sJn_b l h,[((wA .u8 16 [(jb l 0),(jb l 8),(jb l 16),(jb l 24),(jb l 32),(jb l 40),(jb l 48),(jb l 56),(jb h 0),(jb h 8),(jb h 16),(jb h 24),(jb h 32),(jb h 40),(jb h 48),(jb h 56)]),(22,(0,0))),((wA .u8 16 [(jb l 0),(jb l 8),(jb l 16),(jb l 24),(jb l 32),(jb l 40),(jb l 48),(jb l 56),(jb h 0),(jb h 8),(jb h 16),(jb h 24),(jb h 32),(jb h 40),(jb h 48),(jb h 56)]),(22,(0,0)))],((((((((((((((((((((((((((((((((((((((((((((((((((((((((((((((((((((((((((((((((((((((((((((((((((((((((((((((((((((((((((((((((((((((((((((((((((((((((((((((((((((((((((((((((((((True∧True)∧True)∧True)∧True)∧True)∧True)∧True)∧True)∧((0:Int)≤0))∧(True∧(IntKind.u8.wrap (l / 2 ^ (0)))=(jb l 0)))∧((0:Int)≤0∧(0:Int)<((16:Nat):Int)))∧(0<(wA .u8 16 []).size∧(wA .u8 16 []).setIfInBounds (0) (.int .u8 (jb l 0))=(wA .u8 16 [(jb l 0),0,0,0,0,0,0,0,0,0,0,0,0,0,0,0])))∧True)∧True)∧True)∧True)∧True)∧((0:Int)≤0))∧(True∧(IntKind.u8.wrap (h / 2 ^ (0)))=(jb h 0)))∧((0:Int)≤8∧(8:Int)<((16:Nat):Int)))∧(8<(wA .u8 16 [(jb l 0),0,0,0,0,0,0,0,0,0,0,0,0,0,0,0]).size∧(wA .u8 16 [(jb l 0),0,0,0,0,0,0,0,0,0,0,0,0,0,0,0]).setIfInBounds (8) (.int .u8 (jb h 0))=(wA .u8 16 [(jb l 0),0,0,0,0,0,0,0,(jb h 0),0,0,0,0,0,0,0])))∧True)∧True)∧True)∧True)∧True)∧True)∧True)∧True)∧True)∧((0:Int)≤8))∧(True∧(IntKind.u8.wrap (l / 2 ^ (8)))=(jb l 8)))∧((0:Int)≤1∧(1:Int)<((16:Nat):Int)))∧(1<(wA .u8 16 [(jb l 0),0,0,0,0,0,0,0,(jb h 0),0,0,0,0,0,0,0]).size∧(wA .u8 16 [(jb l 0),0,0,0,0,0,0,0,(jb h 0),0,0,0,0,0,0,0]).setIfInBounds (1) (.int .u8 (jb l 8))=(wA .u8 16 [(jb l 0),(jb l 8),0,0,0,0,0,0,(jb h 0),0,0,0,0,0,0,0])))∧True)∧True)∧True)∧True)∧True)∧((0:Int)≤8))∧(True∧(IntKind.u8.wrap (h / 2 ^ (8)))=(jb h 8)))∧((0:Int)≤9∧(9:Int)<((16:Nat):Int)))∧(9<(wA .u8 16 [(jb l 0),(jb l 8),0,0,0,0,0,0,(jb h 0),0,0,0,0,0,0,0]).size∧(wA .u8 16 [(jb l 0),(jb l 8),0,0,0,0,0,0,(jb h 0),0,0,0,0,0,0,0]).setIfInBounds (9) (.int .u8 (jb h 8))=(wA .u8 16 [(jb l 0),(jb l 8),0,0,0,0,0,0,(jb h 0),(jb h 8),0,0,0,0,0,0])))∧True)∧True)∧True)∧True)∧True)∧True)∧True)∧True)∧True)∧((0:Int)≤16))∧(True∧(IntKind.u8.wrap (l / 2 ^ (16)))=(jb l 16)))∧((0:Int)≤2∧(2:Int)<((16:Nat):Int)))∧(2<(wA .u8 16 [(jb l 0),(jb l 8),0,0,0,0,0,0,(jb h 0),(jb h 8),0,0,0,0,0,0]).size∧(wA .u8 16 [(jb l 0),(jb l 8),0,0,0,0,0,0,(jb h 0),(jb h 8),0,0,0,0,0,0]).setIfInBounds (2) (.int .u8 (jb l 16))=(wA .u8 16 [(jb l 0),(jb l 8),(jb l 16),0,0,0,0,0,(jb h 0),(jb h 8),0,0,0,0,0,0])))∧True)∧True)∧True)∧True)∧True)∧((0:Int)≤16))∧(True∧(IntKind.u8.wrap (h / 2 ^ (16)))=(jb h 16)))∧((0:Int)≤10∧(10:Int)<((16:Nat):Int)))∧(10<(wA .u8 16 [(jb l 0),(jb l 8),(jb l 16),0,0,0,0,0,(jb h 0),(jb h 8),0,0,0,0,0,0]).size∧(wA .u8 16 [(jb l 0),(jb l 8),(jb l 16),0,0,0,0,0,(jb h 0),(jb h 8),0,0,0,0,0,0]).setIfInBounds (10) (.int .u8 (jb h 16))=(wA .u8 16 [(jb l 0),(jb l 8),(jb l 16),0,0,0,0,0,(jb h 0),(jb h 8),(jb h 16),0,0,0,0,0])))∧True)∧True)∧True)∧True)∧True)∧True)∧True)∧True)∧True)∧((0:Int)≤24))∧(True∧(IntKind.u8.wrap (l / 2 ^ (24)))=(jb l 24)))∧((0:Int)≤3∧(3:Int)<((16:Nat):Int)))∧(3<(wA .u8 16 [(jb l 0),(jb l 8),(jb l 16),0,0,0,0,0,(jb h 0),(jb h 8),(jb h 16),0,0,0,0,0]).size∧(wA .u8 16 [(jb l 0),(jb l 8),(jb l 16),0,0,0,0,0,(jb h 0),(jb h 8),(jb h 16),0,0,0,0,0]).setIfInBounds (3) (.int .u8 (jb l 24))=(wA .u8 16 [(jb l 0),(jb l 8),(jb l 16),(jb l 24),0,0,0,0,(jb h 0),(jb h 8),(jb h 16),0,0,0,0,0])))∧True)∧True)∧True)∧True)∧True)∧((0:Int)≤24))∧(True∧(IntKind.u8.wrap (h / 2 ^ (24)))=(jb h 24)))∧((0:Int)≤11∧(11:Int)<((16:Nat):Int)))∧(11<(wA .u8 16 [(jb l 0),(jb l 8),(jb l 16),(jb l 24),0,0,0,0,(jb h 0),(jb h 8),(jb h 16),0,0,0,0,0]).size∧(wA .u8 16 [(jb l 0),(jb l 8),(jb l 16),(jb l 24),0,0,0,0,(jb h 0),(jb h 8),(jb h 16),0,0,0,0,0]).setIfInBounds (11) (.int .u8 (jb h 24))=(wA .u8 16 [(jb l 0),(jb l 8),(jb l 16),(jb l 24),0,0,0,0,(jb h 0),(jb h 8),(jb h 16),(jb h 24),0,0,0,0])))∧True)∧True)∧True)∧True)∧True)∧True)∧True)∧True)∧True)∧((0:Int)≤32))∧(True∧(IntKind.u8.wrap (l / 2 ^ (32)))=(jb l 32)))∧((0:Int)≤4∧(4:Int)<((16:Nat):Int)))∧(4<(wA .u8 16 [(jb l 0),(jb l 8),(jb l 16),(jb l 24),0,0,0,0,(jb h 0),(jb h 8),(jb h 16),(jb h 24),0,0,0,0]).size∧(wA .u8 16 [(jb l 0),(jb l 8),(jb l 16),(jb l 24),0,0,0,0,(jb h 0),(jb h 8),(jb h 16),(jb h 24),0,0,0,0]).setIfInBounds (4) (.int .u8 (jb l 32))=(wA .u8 16 [(jb l 0),(jb l 8),(jb l 16),(jb l 24),(jb l 32),0,0,0,(jb h 0),(jb h 8),(jb h 16),(jb h 24),0,0,0,0])))∧True)∧True)∧True)∧True)∧True)∧((0:Int)≤32))∧(True∧(IntKind.u8.wrap (h / 2 ^ (32)))=(jb h 32)))∧((0:Int)≤12∧(12:Int)<((16:Nat):Int)))∧(12<(wA .u8 16 [(jb l 0),(jb l 8),(jb l 16),(jb l 24),(jb l 32),0,0,0,(jb h 0),(jb h 8),(jb h 16),(jb h 24),0,0,0,0]).size∧(wA .u8 16 [(jb l 0),(jb l 8),(jb l 16),(jb l 24),(jb l 32),0,0,0,(jb h 0),(jb h 8),(jb h 16),(jb h 24),0,0,0,0]).setIfInBounds (12) (.int .u8 (jb h 32))=(wA .u8 16 [(jb l 0),(jb l 8),(jb l 16),(jb l 24),(jb l 32),0,0,0,(jb h 0),(jb h 8),(jb h 16),(jb h 24),(jb h 32),0,0,0])))∧True)∧True)∧True)∧True)∧True)∧True)∧True)∧True)∧True)∧((0:Int)≤40))∧(True∧(IntKind.u8.wrap (l / 2 ^ (40)))=(jb l 40)))∧((0:Int)≤5∧(5:Int)<((16:Nat):Int)))∧(5<(wA .u8 16 [(jb l 0),(jb l 8),(jb l 16),(jb l 24),(jb l 32),0,0,0,(jb h 0),(jb h 8),(jb h 16),(jb h 24),(jb h 32),0,0,0]).size∧(wA .u8 16 [(jb l 0),(jb l 8),(jb l 16),(jb l 24),(jb l 32),0,0,0,(jb h 0),(jb h 8),(jb h 16),(jb h 24),(jb h 32),0,0,0]).setIfInBounds (5) (.int .u8 (jb l 40))=(wA .u8 16 [(jb l 0),(jb l 8),(jb l 16),(jb l 24),(jb l 32),(jb l 40),0,0,(jb h 0),(jb h 8),(jb h 16),(jb h 24),(jb h 32),0,0,0])))∧True)∧True)∧True)∧True)∧True)∧((0:Int)≤40))∧(True∧(IntKind.u8.wrap (h / 2 ^ (40)))=(jb h 40)))∧((0:Int)≤13∧(13:Int)<((16:Nat):Int)))∧(13<(wA .u8 16 [(jb l 0),(jb l 8),(jb l 16),(jb l 24),(jb l 32),(jb l 40),0,0,(jb h 0),(jb h 8),(jb h 16),(jb h 24),(jb h 32),0,0,0]).size∧(wA .u8 16 [(jb l 0),(jb l 8),(jb l 16),(jb l 24),(jb l 32),(jb l 40),0,0,(jb h 0),(jb h 8),(jb h 16),(jb h 24),(jb h 32),0,0,0]).setIfInBounds (13) (.int .u8 (jb h 40))=(wA .u8 16 [(jb l 0),(jb l 8),(jb l 16),(jb l 24),(jb l 32),(jb l 40),0,0,(jb h 0),(jb h 8),(jb h 16),(jb h 24),(jb h 32),(jb h 40),0,0])))∧True)∧True)∧True)∧True)∧True)∧True)∧True)∧True)∧True)∧((0:Int)≤48))∧(True∧(IntKind.u8.wrap (l / 2 ^ (48)))=(jb l 48)))∧((0:Int)≤6∧(6:Int)<((16:Nat):Int)))∧(6<(wA .u8 16 [(jb l 0),(jb l 8),(jb l 16),(jb l 24),(jb l 32),(jb l 40),0,0,(jb h 0),(jb h 8),(jb h 16),(jb h 24),(jb h 32),(jb h 40),0,0]).size∧(wA .u8 16 [(jb l 0),(jb l 8),(jb l 16),(jb l 24),(jb l 32),(jb l 40),0,0,(jb h 0),(jb h 8),(jb h 16),(jb h 24),(jb h 32),(jb h 40),0,0]).setIfInBounds (6) (.int .u8 (jb l 48))=(wA .u8 16 [(jb l 0),(jb l 8),(jb l 16),(jb l 24),(jb l 32),(jb l 40),(jb l 48),0,(jb h 0),(jb h 8),(jb h 16),(jb h 24),(jb h 32),(jb h 40),0,0])))∧True)∧True)∧True)∧True)∧True)∧((0:Int)≤48))∧(True∧(IntKind.u8.wrap (h / 2 ^ (48)))=(jb h 48)))∧((0:Int)≤14∧(14:Int)<((16:Nat):Int)))∧(14<(wA .u8 16 [(jb l 0),(jb l 8),(jb l 16),(jb l 24),(jb l 32),(jb l 40),(jb l 48),0,(jb h 0),(jb h 8),(jb h 16),(jb h 24),(jb h 32),(jb h 40),0,0]).size∧(wA .u8 16 [(jb l 0),(jb l 8),(jb l 16),(jb l 24),(jb l 32),(jb l 40),(jb l 48),0,(jb h 0),(jb h 8),(jb h 16),(jb h 24),(jb h 32),(jb h 40),0,0]).setIfInBounds (14) (.int .u8 (jb h 48))=(wA .u8 16 [(jb l 0),(jb l 8),(jb l 16),(jb l 24),(jb l 32),(jb l 40),(jb l 48),0,(jb h 0),(jb h 8),(jb h 16),(jb h 24),(jb h 32),(jb h 40),(jb h 48),0])))∧True)∧True)∧True)∧True)∧True)∧True)∧True)∧True)∧True)∧((0:Int)≤56))∧(True∧(IntKind.u8.wrap (l / 2 ^ (56)))=(jb l 56)))∧((0:Int)≤7∧(7:Int)<((16:Nat):Int)))∧(7<(wA .u8 16 [(jb l 0),(jb l 8),(jb l 16),(jb l 24),(jb l 32),(jb l 40),(jb l 48),0,(jb h 0),(jb h 8),(jb h 16),(jb h 24),(jb h 32),(jb h 40),(jb h 48),0]).size∧(wA .u8 16 [(jb l 0),(jb l 8),(jb l 16),(jb l 24),(jb l 32),(jb l 40),(jb l 48),0,(jb h 0),(jb h 8),(jb h 16),(jb h 24),(jb h 32),(jb h 40),(jb h 48),0]).setIfInBounds (7) (.int .u8 (jb l 56))=(wA .u8 16 [(jb l 0),(jb l 8),(jb l 16),(jb l 24),(jb l 32),(jb l 40),(jb l 48),(jb l 56),(jb h 0),(jb h 8),(jb h 16),(jb h 24),(jb h 32),(jb h 40),(jb h 48),0])))∧True)∧True)∧True)∧True)∧True)∧((0:Int)≤56))∧(True∧(IntKind.u8.wrap (h / 2 ^ (56)))=(jb h 56)))∧((0:Int)≤15∧(15:Int)<((16:Nat):Int)))∧(15<(wA .u8 16 [(jb l 0),(jb l 8),(jb l 16),(jb l 24),(jb l 32),(jb l 40),(jb l 48),(jb l 56),(jb h 0),(jb h 8),(jb h 16),(jb h 24),(jb h 32),(jb h 40),(jb h 48),0]).size∧(wA .u8 16 [(jb l 0),(jb l 8),(jb l 16),(jb l 24),(jb l 32),(jb l 40),(jb l 48),(jb l 56),(jb h 0),(jb h 8),(jb h 16),(jb h 24),(jb h 32),(jb h 40),(jb h 48),0]).setIfInBounds (15) (.int .u8 (jb h 56))=(wA .u8 16 [(jb l 0),(jb l 8),(jb l 16),(jb l 24),(jb l 32),(jb l 40),(jb l 48),(jb l 56),(jb h 0),(jb h 8),(jb h 16),(jb h 24),(jb h 32),(jb h 40),(jb h 48),(jb h 56)])))∧True)∧True)∧True)∧True)∧((wA .u8 16 [(jb l 0),(jb l 8),(jb l 16),(jb l 24),(jb l 32),(jb l 40),(jb l 48),(jb l 56),(jb h 0),(jb h 8),(jb h 16),(jb h 24),(jb h 32),(jb h 40),(jb h 48),(jb h 56)]).all (fun v=>v.oneCell')=true)),[]⟩):=by kernel_rfl
set_option maxRecDepth 100000 in
set_option maxHeartbeats 4000000 in
theorem sJn_c (l h:Int):Pure Try.prog 26 #[.int .u64 l,.int .u64 h] (.agg (wA .u8 16 (jnL l h))):=by
  refine pure_runs (E:=(yty.en tabV0)) Try.func26 (c:=bdy Try.f26) (by kernel_rfl) (args:= [.int .u64 l,.int .u64 h]) (by kernel_rfl) (K:=fun e s=>e= .ret∧resS (yty.en tabV0) s Try.f26.results.toList=some [.agg (wA .u8 16 (jnL l h))]) ?_ (fun e s h=>⟨h.1,_,h.2,rfl⟩)
  refine(runs_ev mixed _ (sJn_0 l h) ⟨⟨⟨⟨⟨⟨⟨⟨⟨⟨⟨⟨⟨⟨⟨⟨⟨⟨⟨⟨⟨⟨⟨⟨⟨⟨⟨⟨⟨⟨⟨⟨⟨⟨⟨⟨⟨⟨⟨⟨⟨⟨⟨⟨⟨⟨⟨⟨⟨⟨⟨⟨⟨⟨⟨⟨⟨⟨⟨⟨⟨⟨⟨⟨⟨⟨⟨⟨⟨⟨⟨⟨⟨⟨⟨⟨⟨⟨⟨⟨⟨⟨⟨⟨⟨⟨⟨⟨⟨⟨⟨⟨⟨⟨⟨⟨⟨⟨⟨⟨⟨⟨⟨⟨⟨⟨⟨⟨⟨⟨⟨⟨⟨⟨⟨⟨⟨⟨⟨⟨⟨⟨⟨⟨⟨⟨⟨⟨⟨⟨⟨⟨⟨⟨⟨⟨⟨⟨⟨⟨⟨⟨⟨⟨⟨⟨⟨⟨⟨⟨⟨⟨⟨⟨⟨⟨⟨⟨⟨⟨⟨⟨⟨⟨⟨⟨⟨⟨⟨⟨⟨⟨⟨⟨⟨⟨⟨⟨⟨⟨trivial,trivial⟩,trivial⟩,trivial⟩,trivial⟩,trivial⟩,trivial⟩,trivial⟩,trivial⟩,(by decide)⟩,⟨trivial,rfl⟩⟩,⟨by decide,by decide⟩⟩,⟨by rw[wA_size];omega,rfl⟩⟩,trivial⟩,trivial⟩,trivial⟩,trivial⟩,trivial⟩,(by decide)⟩,⟨trivial,rfl⟩⟩,⟨by decide,by decide⟩⟩,⟨by rw[wA_size];omega,rfl⟩⟩,trivial⟩,trivial⟩,trivial⟩,trivial⟩,trivial⟩,trivial⟩,trivial⟩,trivial⟩,trivial⟩,(by decide)⟩,⟨trivial,rfl⟩⟩,⟨by decide,by decide⟩⟩,⟨by rw[wA_size];omega,rfl⟩⟩,trivial⟩,trivial⟩,trivial⟩,trivial⟩,trivial⟩,(by decide)⟩,⟨trivial,rfl⟩⟩,⟨by decide,by decide⟩⟩,⟨by rw[wA_size];omega,rfl⟩⟩,trivial⟩,trivial⟩,trivial⟩,trivial⟩,trivial⟩,trivial⟩,trivial⟩,trivial⟩,trivial⟩,(by decide)⟩,⟨trivial,rfl⟩⟩,⟨by decide,by decide⟩⟩,⟨by rw[wA_size];omega,rfl⟩⟩,trivial⟩,trivial⟩,trivial⟩,trivial⟩,trivial⟩,(by decide)⟩,⟨trivial,rfl⟩⟩,⟨by decide,by decide⟩⟩,⟨by rw[wA_size];omega,rfl⟩⟩,trivial⟩,trivial⟩,trivial⟩,trivial⟩,trivial⟩,trivial⟩,trivial⟩,trivial⟩,trivial⟩,(by decide)⟩,⟨trivial,rfl⟩⟩,⟨by decide,by decide⟩⟩,⟨by rw[wA_size];omega,rfl⟩⟩,trivial⟩,trivial⟩,trivial⟩,trivial⟩,trivial⟩,(by decide)⟩,⟨trivial,rfl⟩⟩,⟨by decide,by decide⟩⟩,⟨by rw[wA_size];omega,rfl⟩⟩,trivial⟩,trivial⟩,trivial⟩,trivial⟩,trivial⟩,trivial⟩,trivial⟩,trivial⟩,trivial⟩,(by decide)⟩,⟨trivial,rfl⟩⟩,⟨by decide,by decide⟩⟩,⟨by rw[wA_size];omega,rfl⟩⟩,trivial⟩,trivial⟩,trivial⟩,trivial⟩,trivial⟩,(by decide)⟩,⟨trivial,rfl⟩⟩,⟨by decide,by decide⟩⟩,⟨by rw[wA_size];omega,rfl⟩⟩,trivial⟩,trivial⟩,trivial⟩,trivial⟩,trivial⟩,trivial⟩,trivial⟩,trivial⟩,trivial⟩,(by decide)⟩,⟨trivial,rfl⟩⟩,⟨by decide,by decide⟩⟩,⟨by rw[wA_size];omega,rfl⟩⟩,trivial⟩,trivial⟩,trivial⟩,trivial⟩,trivial⟩,(by decide)⟩,⟨trivial,rfl⟩⟩,⟨by decide,by decide⟩⟩,⟨by rw[wA_size];omega,rfl⟩⟩,trivial⟩,trivial⟩,trivial⟩,trivial⟩,trivial⟩,trivial⟩,trivial⟩,trivial⟩,trivial⟩,(by decide)⟩,⟨trivial,rfl⟩⟩,⟨by decide,by decide⟩⟩,⟨by rw[wA_size];omega,rfl⟩⟩,trivial⟩,trivial⟩,trivial⟩,trivial⟩,trivial⟩,(by decide)⟩,⟨trivial,rfl⟩⟩,⟨by decide,by decide⟩⟩,⟨by rw[wA_size];omega,rfl⟩⟩,trivial⟩,trivial⟩,trivial⟩,trivial⟩,trivial⟩,trivial⟩,trivial⟩,trivial⟩,trivial⟩,(by decide)⟩,⟨trivial,rfl⟩⟩,⟨by decide,by decide⟩⟩,⟨by rw[wA_size];omega,rfl⟩⟩,trivial⟩,trivial⟩,trivial⟩,trivial⟩,trivial⟩,(by decide)⟩,⟨trivial,rfl⟩⟩,⟨by decide,by decide⟩⟩,⟨by rw[wA_size];omega,rfl⟩⟩,trivial⟩,trivial⟩,trivial⟩,trivial⟩,wA_one _ _ _⟩).mono ?_
  rintro e s ⟨rfl,rfl⟩
  exact⟨rfl,by kernel_rfl⟩
def pdv:Entry Try.prog:=ent2C Try.func25 (by kernel_rfl) (by kernel_rfl) (fun l h=> .tuple #[.int .u64 (dvL l h),.int .u64 (dvH l h)]) (fun _ _=>True) (k:= .u64) (k':= .u64) (fun l h _=>sDv_c l h)
def pjn:Entry Try.prog:=ent2C Try.func26 (by kernel_rfl) (by kernel_rfl) (fun l h=> .agg (wA .u8 16 (jnL l h))) (fun _ _=>True) (k:= .u64) (k':= .u64) (fun l h _=>sJn_c l h)
def pwr:Entry Try.prog:=entL Try.func24 (by kernel_rfl) (by kernel_rfl) 16 (fun L=> .tuple #[.int .u64 (wlo L),.int .u64 (whi L)]) (fun L h=>sWd_c L h)
def tabV1:List (Entry Try.prog):=pdv :: pjn :: pwr :: []
def sDoA_h (i:Nat):Hn:=⟨0,[],[],[],[]⟩
abbrev sDoA_R (w:List Nat) (S:FS) (e:Exit) (K:FS→Prop):Prop:=Rn Try.prog (cAt w (bdy Try.f9)) S e K 0
structure sDoA_c (L Y:List Int):Prop where
  hL:By L
  hY:By Y
variable {L Y:List Int} {k_1:sDoA_c L Y}
abbrev sDoA (_:sDoA_c L Y):FS:=⟨true,47,[(0,.agg (wA .u8 16 L)),(1,.agg (wA .u8 16 Y))],[]⟩
abbrev sDoB (_:sDoA_c L Y):FS:=⟨false,47,[(2,.pointer (some ⟨0,0,none⟩)),(3,.pointer (some ⟨1,0,none⟩)),(4,.pointer (some ⟨2,0,none⟩))],[((wA .u8 16 L),(22,(0,0))),((wA .u8 16 Y),(22,(0,0))),((wA .u8 16 []),(22,(0,0)))]⟩
theorem sDo0:sDoA_R [0] (sDoA k_1) .normal (fun z_=>z_=sDoB k_1):=by
  exact rn_ev (yty.en tabV1) sDoA_h mixed _ none [] [] 0 (fun j M=>by kernel_rfl) A0 rfl
structure sDoC_c (_:sDoA_c L Y) (a b:Int):Prop where
  ha:a=wlo Y
  hb:b=whi Y
variable {a b:Int} {k_2:sDoC_c k_1 a b}
abbrev sDoC (_:sDoC_c k_1 a b):FS:=⟨false,47,[(2,.pointer (some ⟨0,0,none⟩)),(3,.pointer (some ⟨1,0,none⟩)),(4,.pointer (some ⟨2,0,none⟩)),(5,.int .u64 a),(6,.int .u64 b)],[((wA .u8 16 L),(22,(0,0))),((wA .u8 16 Y),(22,(0,0))),((wA .u8 16 []),(22,(0,0)))]⟩
theorem wlo_w (Y:List Int):wlo (dL8 (wA .u8 16 Y))=wlo Y:=by
  simp only[wlo,or8,dL8_wA];rfl
theorem whi_w (Y:List Int):whi (dL8 (wA .u8 16 Y))=whi Y:=by
  simp only[whi,or8,dL8_wA];rfl
theorem sDo1:sDoA_R [1,0] (sDoB k_1) .normal (fun z_=>∃(k_2:sDoC_c k_1 (wlo (dL8 (wA .u8 16 Y))) (whi (dL8 (wA .u8 16 Y)))),z_=sDoC k_2):=by
  have⟨hL,hY⟩:=id k_1
  exact rn_ev (yty.en tabV1) sDoA_h mixed _ none [] [(2,((wA .u8 16 Y)=wA .u8 16 (dL8 (wA .u8 16 Y))∧By (dL8 (wA .u8 16 Y))))] 5 (fun j M=>by kernel_rfl) (A1 (dq hY) A0) ⟨⟨wlo_w Y,whi_w Y⟩,rfl⟩
def dbit (L:List Int) (i:Nat):Int:=IntKind.u64.wrap (0 - (IntKind.u64.wrap (bits .and .u8 ((L.getD (i / 8) 0) / 2 ^ (min (Int.toNat ((i%8:Nat):Int)) 8)) 1)))
def dsX (a l:Int) (L:List Int) (i:Nat):Int:=bits .xor .u64 l (bits .and .u64 a (dbit L i))
def dsL (L:List Int) (a b l h:Int) (i:Nat):Int:=dvL (dsX a l L i) (dsX b h L i)
def dsH (L:List Int) (a b l h:Int) (i:Nat):Int:=dvH (dsX a l L i) (dsX b h L i)
def dit (L Y:List Int):Nat→Int×Int
  |0=>(0,0)
  |i+1=>(dsL L (wlo Y) (whi Y) (dit L Y i).1 (dit L Y i).2 i,dsH L (wlo Y) (whi Y) (dit L Y i).1 (dit L Y i).2 i)
def dotL (L Y:List Int):List Int:=jnL (dit L Y 128).1 (dit L Y 128).2
theorem dotL_by (L Y:List Int):By (dotL L Y):=jnL_by _ _
structure sDoE_c (_:sDoC_c k_1 a b) (l h:Int) (i:Nat):Prop where
  hl:l=(dit L Y i).1
  hh:h=(dit L Y i).2
  hi:i≤128
variable {l h:Int} {i:Nat} {k_3:sDoE_c k_2 l h i}
abbrev sDoE (_:sDoE_c k_2 l h i):FS:=⟨false,47,[(2,.pointer (some ⟨0,0,none⟩)),(3,.pointer (some ⟨1,0,none⟩)),(4,.pointer (some ⟨2,0,none⟩)),(5,.int .u64 a),(6,.int .u64 b),(7,.int .u64 l),(8,.int .u64 h),(16,.int .i64 ((i:Nat):Int))],[((wA .u8 16 L),(22,(0,0))),((wA .u8 16 Y),(22,(0,0))),((wA .u8 16 []),(22,(0,0)))]⟩
structure sDoD_c (_:sDoC_c k_1 a b) (l h:Int):Prop where
  hl0:l=0
  hh0:h=0
variable {k_4:sDoD_c k_2 l h}
abbrev sDoD (_:sDoD_c k_2 l h):FS:=⟨false,47,[(2,.pointer (some ⟨0,0,none⟩)),(3,.pointer (some ⟨1,0,none⟩)),(4,.pointer (some ⟨2,0,none⟩)),(5,.int .u64 a),(6,.int .u64 b),(7,.int .u64 l),(8,.int .u64 h)],[((wA .u8 16 L),(22,(0,0))),((wA .u8 16 Y),(22,(0,0))),((wA .u8 16 []),(22,(0,0)))]⟩
theorem sDo2:sDoA_R [1,1,0] (sDoC k_2) .normal (fun z_=>∃(k_4:sDoD_c k_2 (0:Int) (0:Int)),z_=sDoD k_4):=by
  exact rn_ev (yty.en tabV1) sDoA_h mixed _ none [] [] 2 (fun j M=>by kernel_rfl) A0 ⟨⟨rfl,rfl⟩,rfl⟩
theorem sDo3:sDoA_R [1,1,1,0,0] (sDoD k_4) .normal (fun z_=>∃(k_3:sDoE_c k_2 l h 0),z_=sDoE k_3):=by
  have⟨hL,hY⟩:=id k_1
  have⟨ha,hb⟩:=id k_2
  have⟨hl0,hh0⟩:=id k_4
  exact rn_ev (yty.en tabV1) sDoA_h mixed _ none [] [] 1 (fun j M=>by kernel_rfl) A0 ⟨⟨hl0,hh0,by omega⟩,rfl⟩
theorem sDo4 (hlt:i<128):sDoA_R [1,1,1,0,1,0,0] (sDoE k_3) .normal (fun z_=>∃(k_3:sDoE_c k_2 (dsL L a b l h i) (dsH L a b l h i) (i+1)),z_=sDoE k_3):=by
  have⟨hL,hY⟩:=id k_1
  have⟨ha,hb⟩:=id k_2
  have⟨hl,hh,hi⟩:=id k_3
  exact rn_ev (yty.en tabV1) sDoA_h mixed _ none [some (.bool true),some (.int .i64 ((i / 8:Nat):Int)),some (.int .u8 (L.getD (i / 8) 0)),some (.int .i64 ((i%8:Nat):Int)),none,none,none,none,none,none,none,some (.int .i64 ((i+1:Nat):Int))] [(1,(decide (((i:Nat):Int)<128))=true),(6,(((8:Int)≠0)∧(IntKind.i64.wrap (Int.tdiv ((i:Nat):Int) 8))=((i / 8:Nat):Int))),(0,(0≤((i / 8:Nat):Int)∧((i / 8:Nat):Int)<((16:Nat):Int))),(0,(((wA .u8 16 L)[(0+Int.toNat ((i / 8:Nat):Int)*1)]? =some (.int .u8 (L.getD (i / 8) 0)))∧(L.getD (i / 8) 0)=(L.getD (i / 8) 0))),(2,(((8:Int)≠0)∧(Int.tmod ((i:Nat):Int) 8)=((i%8:Nat):Int))),(0,(0≤((i%8:Nat):Int))),(28,((IntKind.u64=IntKind.u64∧IntKind.u64=IntKind.u64)∧True)),(11,(IntKind.i64.wrap (((i:Nat):Int)+1))=((i+1:Nat):Int))] 1 (fun j M=>by kernel_rfl) (A1 (decide_eq_true (by omega)) (A1 ⟨(by decide),(by exact tdivN_i64 i 8 (by omega))⟩ (A1 (by(try simp only[Int.toNat_natCast,wA_size]);omega) (A1 ⟨(wA_get (by omega) (by omega)),rfl⟩ (A1 ⟨(by decide),(by exact tmodN i 8)⟩ (A1 (by omega) (A1 ⟨⟨rfl,rfl⟩,trivial⟩ (A1 (wi64 (by omega)) A0)))))))) ⟨⟨by rw[hl,hh,ha,hb];rfl,by rw[hl,hh,ha,hb];rfl,by omega⟩,rfl⟩
structure sDoF_c (_:sDoA_c L Y) (a b l h:Int) (i:Nat):Prop where
  hl:l=(dit L Y 128).1
  hh:h=(dit L Y 128).2
variable {k_5:sDoF_c k_1 a b l h i}
abbrev sDoF (_:sDoF_c k_1 a b l h i):FS:=⟨false,47,[(2,.pointer (some ⟨0,0,none⟩)),(3,.pointer (some ⟨1,0,none⟩)),(4,.pointer (some ⟨2,0,none⟩)),(5,.int .u64 a),(6,.int .u64 b),(7,.int .u64 l),(8,.int .u64 h),(16,.int .i64 ((i:Nat):Int))],[((wA .u8 16 L),(22,(0,0))),((wA .u8 16 Y),(22,(0,0))),((wA .u8 16 []),(22,(0,0)))]⟩
theorem sDo5 (hge:¬ i<128):sDoA_R [1,1,1,0,1,0,0] (sDoE k_3) (.exit 0) (fun z_=>∃(k_5:sDoF_c k_1 a b l h i),z_=sDoF k_5):=by
  have⟨hL,hY⟩:=id k_1
  have⟨ha,hb⟩:=id k_2
  have⟨hl,hh,hi⟩:=id k_3
  exact rn_ev (yty.en tabV1) sDoA_h mixed _ none [some (.bool false)] [(1,(decide (((i:Nat):Int)<128))=false)] 0 (fun j M=>by kernel_rfl) (A1 (decide_eq_false (by omega)) A0) ⟨⟨by rw[hl,show i=128 by omega],by rw[hh,show i=128 by omega]⟩,rfl⟩
theorem sDo6:sDoA_R [1,1,1,0,1] (sDoE k_3) .normal (fun z_=>∃(l h:Int) (i:Nat) (k_5:sDoF_c k_1 a b l h i),z_=sDoF k_5):=by
  refine rn_loop (k:=0) (w:= [1,1,1,0,1]) (by kernel_rfl) (fun n_ z_=>∃(l h:Int) (i:Nat) (k_3:sDoE_c k_2 l h i),n_=128 - i∧z_=sDoE k_3) _ ⟨_,_,_,k_3,rfl,rfl⟩ ?_
  rintro n_ _ ⟨l,h,i,k_3,hn_,rfl⟩
  have⟨hL,hY⟩:=k_1
  have⟨ha,hb⟩:=k_2
  have⟨hl,hh,hi⟩:=k_3
  by_cases hlt:i<128
  · exact(sDo4 hlt).x fun _ ⟨k_3,e_⟩=> .inl ⟨rfl,128 - (i+1),by omega,⟨_,_,_,k_3,rfl,e_⟩⟩
  · exact(sDo5 hlt).x fun _ ⟨k_5,e_⟩=> .inr ⟨rfl,⟨l,h,i,k_5,e_⟩⟩
theorem sDo7:sDoA_R [1,1,1,0] (sDoD k_4) .normal (fun z_=>∃(l1 h1:Int) (i1:Nat) (k_5:sDoF_c k_1 a b l1 h1 i1),z_=sDoF k_5):=by
  refine rn_seq (w:= [1,1,1,0]) (by kernel_rfl) sDo3 ?_
  rintro _ ⟨k_3,rfl⟩
  exact sDo6
abbrev sDoG (_:sDoF_c k_1 a b l h i):FS:=⟨false,47,[(4,.pointer (some ⟨2,0,none⟩))],[((wA .u8 16 L),(22,(0,0))),((wA .u8 16 Y),(22,(0,0))),((wA .u8 16 (jnL l h)),(22,(0,0)))]⟩
theorem sDo8:sDoA_R [1,1,1,1] (sDoF k_5) .ret (fun z_=>z_=sDoG k_5):=by
  exact rn_ev (yty.en tabV1) sDoA_h mixed _ none [] [(4,((IntKind.u64=IntKind.u64∧IntKind.u64=IntKind.u64)∧True)),(0,((wA .u8 16 (jnL l h)).all (fun v=>v.oneCell')=true))] 0 (fun j M=>by kernel_rfl) (A1 ⟨⟨rfl,rfl⟩,trivial⟩ (A1 (wA_one _ _ _) A0)) rfl
theorem sDou':sDoA_R [] (sDoA k_1) .ret (fun z_=>∃(l13 h13:Int) (i13:Nat) (k_5:sDoF_c k_1 (wlo (dL8 (wA .u8 16 Y))) (whi (dL8 (wA .u8 16 Y))) l13 h13 i13),z_=sDoG k_5):=by
  refine rn_seq (w:= []) (by kernel_rfl) sDo0 ?_
  rintro _ rfl
  refine rn_seq (w:= [1]) (by kernel_rfl) sDo1 ?_
  rintro _ ⟨k_2,rfl⟩
  refine rn_seq (w:= [1,1]) (by kernel_rfl) sDo2 ?_
  rintro _ ⟨k_4,rfl⟩
  refine rn_seq (w:= [1,1,1]) (by kernel_rfl) sDo7 ?_
  rintro _ ⟨l13,h13,i13,k_5,rfl⟩
  exact(sDo8).mono fun _ e_=>⟨l13,h13,i13,k_5,e_⟩
abbrev sDoA_s (L Y:List Int) (j:Nat→Value):List Value:=([.agg (wA .u8 16 L),.agg (wA .u8 16 Y)] ++ (JU 45))
abbrev sDoA_m (L Y:List Int):List Mb:= []
abbrev sDoG_s (L Y:List Int) (a b l h:Int) (i:Nat) (j:Nat→Value):List Value:=(J j 0 4 ++ ([.pointer (some ⟨2,0,none⟩)] ++ (J j 5 42)))
abbrev sDoG_m (L Y:List Int) (a b l h:Int) (i:Nat):List Mb:= [((wA .u8 16 L),(22,(0,0))),((wA .u8 16 Y),(22,(0,0))),((wA .u8 16 (jnL l h)),(22,(0,0)))]
theorem sDou (L Y:List Int) (j:Nat→Value) (hL:By L) (hY:By Y)  {c0:Prop} {ch0:List (Option Value)}:Runs Try.prog (cAt [] (bdy Try.f9)) ⟨sDoA_s L Y j,sDoA_m L Y,c0,ch0⟩ (fun e s=>e= .ret∧∃(l13:Int) (h13:Int) (i13:Nat) (j:Nat→Value) (c:Prop) (ch:List (Option Value)),(l13=(dit L Y 128).1)∧(h13=(dit L Y 128).2)∧s=⟨sDoG_s L Y (wlo (dL8 (wA .u8 16 Y))) (whi (dL8 (wA .u8 16 Y))) l13 h13 i13 j,sDoG_m L Y (wlo (dL8 (wA .u8 16 Y))) (whi (dL8 (wA .u8 16 Y))) l13 h13 i13,c,ch⟩) 0:=by
  refine(Rn.old (sDou' (k_1:=(⟨hL,hY⟩:sDoA_c L Y))) j (by kernel_rfl)).mono ?_
  rintro e s ⟨rfl,_,⟨l13,h13,i13,k_5,rfl⟩,j,c,ch,rfl⟩
  have⟨x_hl,x_hh⟩:=k_5
  exact⟨rfl,l13,h13,i13,j,c,ch,x_hl,x_hh,by kernel_rfl⟩
theorem sDo_c (L Y:List Int) (hL:By L) (hY:By Y):Pure Try.prog 9 #[.agg (wA .u8 16 L),.agg (wA .u8 16 Y)] (.agg (wA .u8 16 (dotL L Y))):=by
  refine pure_runs (E:=(yty.en tabV1)) Try.func9 (c:=bdy Try.f9) (by kernel_rfl) (args:= [.agg (wA .u8 16 L),.agg (wA .u8 16 Y)]) (by kernel_rfl) (K:=fun e s=>e= .ret∧resS (yty.en tabV1) s Try.f9.results.toList=some [.agg (wA .u8 16 (dotL L Y))]) ?_ (fun e s h=>⟨h.1,_,h.2,rfl⟩)
  refine(sDou L Y (fun _=>undef) hL hY).mono ?_
  rintro e s ⟨rfl,l,h,i,j,c,ch,hl,hh,rfl⟩
  rw[show dotL L Y=jnL l h by rw[hl,hh];rfl]
  exact⟨rfl,by kernel_rfl⟩
theorem dotL_w1 (L Y : List Int) : dotL (dL8 (wA .u8 16 L)) Y = dotL L Y := by
  have h : ∀ i, i ≤ 128 → dit (dL8 (wA .u8 16 L)) Y i = dit L Y i := by
    intro i hi
    induction i with
    |zero=>rfl
    | succ i ih =>
      have e:dbit (dL8 (wA .u8 16 L)) i=dbit L i:=by
        unfold dbit;rw[dL8_wA,if_pos (by omega)]
      simp only[dit,dsL,dsH,dsX,ih (by omega),e]
  unfold dotL
  rw[h 128 (by omega)]
theorem dotL_w2 (L Y:List Int):dotL L (dL8 (wA .u8 16 Y))=dotL L Y:=by
  have h:∀ i,dit L (dL8 (wA .u8 16 Y)) i=dit L Y i:=by
    intro i
    induction i with
    |zero=>rfl
    |succ i ih=>simp only[dit,dsL,dsH,dsX,ih,wlo_w,whi_w]
  unfold dotL
  rw[h 128]
def pdo:Entry Try.prog:=entLL Try.func9 (by kernel_rfl) (by kernel_rfl) 16 16 (fun L Y=> .agg (wA .u8 16 (dotL L Y))) (fun L Y h1 h2=>sDo_c L Y h1 h2)
def tabV2:List (Entry Try.prog):=pdo :: tabV1
end Go.Proofs.Ythldpfindbhkeaa

set_option linter.unusedSimpArgs false
set_option linter.unusedVariables false
/-! siv: keys. -/
namespace Go.Proofs.Ythldpfindbhkeaa
open Go.RowKit Go.Ev
theorem spl_w {n m o p k q : Nat} {L S V : List Int} (hq : q = k) (h1 : o + k ≤ n) (h2 : p + k ≤ m) (hV : ∀ i, i < n → V.getD i 0 = if o ≤ i ∧ i < o + k then S.getD (p + (i - o)) 0 else L.getD i 0) : (o + q ≤ (wA .u8 n L).size ∧ p + q ≤ (wA .u8 m S).size) ∧ ((wA .u8 m S).extract p (p + q)).all (fun v => v.oneCell') = true ∧ Calm.splice (wA .u8 n L) o ((wA .u8 m S).extract p (p + q)) = wA .u8 n V := by
  subst hq
  have hsz:((wA .u8 m S).extract p (p+q)).size=q:=by rw[Array.size_extract,wA_size];omega
  have hat:∀ j,j<q→((wA .u8 m S).extract p (p+q))[j]? =some (.int .u8 (S.getD (p+j) 0)):=fun j hj=>by
    rw[Array.getElem?_extract_of_lt (by rw[wA_size];omega),← wA_at (k:= .u8) (n:=m) (by omega),Array.getElem?_eq_getElem]
  refine⟨⟨by rw[wA_size];omega,by rw[wA_size];omega⟩,?_,?_⟩
  · rw [Array.all_eq_true]
    intro i hi
    have:=hat i (by omega)
    rw[Array.getElem?_eq_getElem hi] at this
    rw[Option.some.inj this];rfl
  · refine wA_ext ?_ (fun i hi => ?_)
    · unfold Calm.splice
      simp[hsz,wA_size]
      omega
    · have hm2 : (wA .u8 n L).toList.length = n := by rw [Array.length_toList, wA_size]
      rw[hV i hi]
      unfold Calm.splice
      rw[List.getElem?_toArray,List.getElem?_append,List.getElem?_append,List.length_append,List.length_take,hm2,Array.length_toList,hsz]
      by_cases h:i<o
      · rw[if_pos (by omega),if_pos (by omega),List.getElem?_take_of_lt h,Array.getElem?_toList,wA_at hi,if_neg (by omega)]
      · by_cases h3 : i < o + q
        · rw [if_pos (by omega), if_neg (by omega), Array.getElem?_toList, hat _ (by omega), if_pos (by omega)]
          congr 4;omega
        · rw[if_neg (by omega),List.getElem?_drop,Array.getElem?_toList,show o+q+(i - (min o n+q))=i by omega,wA_at hi,if_neg (by omega)]
theorem encL_q (K B:List Int):encL (dL8 (wA .u8 32 K)) (dL8 (wA .u8 16 B))=encL K B:=by
  have e0:addL (dL8 (wA .u8 16 B)) (wdF K) 0=addL B (wdF K) 0:=List.map_congr_left fun i hi=>by
    have hi:i<16:=by simpa using hi
    rw[dL8_wA,if_pos hi]
  have er:∀ r,encR (wdF K) (dL8 (wA .u8 16 B)) r=encR (wdF K) B r:=fun r=>by
    induction r with
    |zero=>exact e0
    |succ r ih=>rw[encR,encR,ih]
  unfold encL
  rw[wdF_w,er]
theorem encL_by (K B:List Int):By (encL K B):=addL_by _ _ _
def blkL (N:List Int) (x:Int):List Int:=(List.range 16).map fun i=>if i<4 then(if i=0 then x else 0) else N.getD (i - 4) 0
theorem blkL_by {N:List Int} {x:Int} (hN:By N) (hx:0≤x∧x<256):By (blkL N x):=by_ofFn fun i _=>by
  split
  · split
    · exact hx
    · exact⟨by decide,by decide⟩
  · exact hN _
theorem blkL_cp (N:List Int) (x:Int) {q:Nat} (hq:q=12):(4+q≤(wA .u8 16 [x]).size∧0+q≤(wA .u8 12 N).size)∧((wA .u8 12 N).extract 0 (0+q)).all (fun v=>v.oneCell')=true∧Calm.splice (wA .u8 16 [x]) 4 ((wA .u8 12 N).extract 0 (0+q))=wA .u8 16 (blkL N x):=spl_w hq (by decide) (by decide) fun i hi=>by
  unfold blkL
  rw[ofFn_at hi]
  by_cases h:i<4
  · rw [if_pos h, if_neg (fun h2 => by omega : ¬ (4 ≤ i ∧ i < 4 + 12))]
    cases i with
    |zero=>rfl
    |succ i=>rw[if_neg (by omega)];simp
  · rw[if_neg h,if_pos (by omega),Nat.zero_add]
theorem st_w (n:Nat) (L V:List Int):0+(wA .u8 n V).size≤(wA .u8 n L).size∧Calm.splice (wA .u8 n L) (0) (wA .u8 n V)=wA .u8 n V∧(wA .u8 n V).all (fun v=>v.oneCell')=true:=by
  refine⟨by rw[wA_size,wA_size];omega,?_,wA_one _ _ _⟩
  unfold Calm.splice
  apply Array.ext'
  have h1:(wA .u8 n L).toList.length=n:=by rw[Array.length_toList,wA_size]
  have h2:(wA .u8 n V).size=n:=wA_size _ _ _
  simp[h2,h1]
def hfL (K N:List Int) (x:Int):List Int:=encL K (blkL N x)
def sHfA_h (i:Nat):Hn:=if i=2 then⟨0,[(0,true),(1,true),(2,false)],[],[0,1],[]⟩ else⟨0,[],[],[],[]⟩
abbrev sHfA_R (w:List Nat) (S:FS) (e:Exit) (K:FS→Prop):Prop:=Rn Try.prog (cAt w (bdy Try.f31)) S e K 0
structure sHfA_c (K N:List Int) (x:Int):Prop where
  hK:By K
  hN:By N
  hx:0≤x∧x<256
variable {K N:List Int} {x:Int} {k_1:sHfA_c K N x}
abbrev sHfA (_:sHfA_c K N x):FS:=⟨true,17,[(0,.agg (wA .u8 32 K)),(1,.agg (wA .u8 12 N)),(2,.int .u8 x)],[]⟩
structure sHfB_c (_:sHfA_c K N x) (E:List Int):Prop where
  hE:E=hfL K N x
variable {E:List Int} {k_2:sHfB_c k_1 E}
abbrev sHfB (_:sHfB_c k_1 E):FS:=⟨false,17,[(6,.slice (some ⟨2,0,none⟩) 8 16)],[((wA .u8 32 K),(27,(0,0))),((wA .u8 12 N),(28,(0,0))),((wA .u8 16 E),(22,(0,0)))]⟩
theorem sHf0':sHfA_R [] (sHfA k_1) .ret (fun z_=>∃(k_2:sHfB_c k_1 (encL (dL8 (wA .u8 32 K)) (dL8 (wA .u8 16 (blkL N x))))),z_=sHfB k_2):=by
  have⟨hK,hN,hx⟩:=id k_1
  exact rn_ev (yty.en tabC3) sHfA_h mixed _ none [some (.agg (wA .u8 16 [x])),some (.agg (wA .u8 16 (blkL N x)))] [(6,(0+(wA .u8 16 [x]).size≤(wA .u8 16 []).size∧Calm.splice (wA .u8 16 []) (0) (wA .u8 16 [x])=(wA .u8 16 [x])∧(wA .u8 16 [x]).all (fun v=>v.oneCell')=true)),(4,((4+Nat.min 12 12≤(wA .u8 16 [x]).size∧0+Nat.min 12 12≤(wA .u8 12 N).size)∧((wA .u8 12 N).extract 0 (0+Nat.min 12 12)).all (fun v=>v.oneCell')=true∧Calm.splice (wA .u8 16 [x]) 4 ((wA .u8 12 N).extract 0 (0+Nat.min 12 12))=(wA .u8 16 (blkL N x)))),(4,(((wA .u8 32 K)=wA .u8 32 (dL8 (wA .u8 32 K))∧By (dL8 (wA .u8 32 K)))∧((wA .u8 16 (blkL N x))=wA .u8 16 (dL8 (wA .u8 16 (blkL N x)))∧By (dL8 (wA .u8 16 (blkL N x)))))),(0,((wA .u8 16 (encL (dL8 (wA .u8 32 K)) (dL8 (wA .u8 16 (blkL N x))))).all (fun v=>v.oneCell')=true))] 2 (fun j M=>by kernel_rfl) (A1 (st_w 16 [] [x]) (A1 (blkL_cp N x (by decide)) (A1 ⟨dq hK,dq (blkL_by hN hx)⟩ (A1 (wA_one _ _ _) A0)))) ⟨⟨encL_q _ _⟩,rfl⟩
abbrev sHfA_s (K N:List Int) (x:Int) (j:Nat→Value):List Value:=([.agg (wA .u8 32 K),.agg (wA .u8 12 N),.int .u8 x] ++ (JU 14))
abbrev sHfA_m (K N:List Int) (x:Int):List Mb:= []
abbrev sHfB_s (K N:List Int) (x:Int) (E:List Int) (j:Nat→Value):List Value:=(J j 0 6 ++ ([.slice (some ⟨2,0,none⟩) 8 16] ++ (J j 7 10)))
abbrev sHfB_m (K N:List Int) (x:Int) (E:List Int):List Mb:= [((wA .u8 32 K),(27,(0,0))),((wA .u8 12 N),(28,(0,0))),((wA .u8 16 E),(22,(0,0)))]
theorem sHf0 (K N:List Int) (x:Int) (j:Nat→Value) (hK:By K) (hN:By N) (hx:0≤x∧x<256)  {c0:Prop} {ch0:List (Option Value)}:Runs Try.prog (cAt [] (bdy Try.f31)) ⟨sHfA_s K N x j,sHfA_m K N x,c0,ch0⟩ (fun e s=>e= .ret∧∃(j:Nat→Value) (c:Prop) (ch:List (Option Value)),((encL (dL8 (wA .u8 32 K)) (dL8 (wA .u8 16 (blkL N x))))=hfL K N x)∧s=⟨sHfB_s K N x (encL (dL8 (wA .u8 32 K)) (dL8 (wA .u8 16 (blkL N x)))) j,sHfB_m K N x (encL (dL8 (wA .u8 32 K)) (dL8 (wA .u8 16 (blkL N x)))),c,ch⟩) 0:=by
  refine(Rn.old (sHf0' (k_1:=(⟨hK,hN,hx⟩:sHfA_c K N x))) j (by kernel_rfl)).mono ?_
  rintro e s ⟨rfl,_,⟨k_2,rfl⟩,j,c,ch,rfl⟩
  have⟨x_hE⟩:=k_2
  exact⟨rfl,j,c,ch,x_hE,by kernel_rfl⟩
theorem sHf_c (K N:List Int) (x:Int) (hK:By K) (hN:By N) (hx:0≤x∧x<256):Makes Try.prog 31 [] [.agg (wA .u8 32 K),.agg (wA .u8 12 N),.int .u8 x] (wA .u8 16 (hfL K N x)) 22 8 16:=by
  refine makes_runs (fk:=0) Try.func31 (c:=bdy Try.f31) (by kernel_rfl) ⟨rfl,by decide⟩ (args:= [.agg (wA .u8 32 K),.agg (wA .u8 12 N),.int .u8 x]) rfl (r:=6) (by kernel_rfl) (sHf0 K N x (fun _=>undef) hK hN hx) ?_
  rintro e s ⟨rfl,hh⟩
  obtain⟨j,c,ch,hE,rfl⟩:=hh
  refine⟨rfl,2,by decide,rfl,?_⟩
  rw[← hE]
  rfl
def mHalf : Maker Try.prog where
  f:=31
  g := fun mem xs => match xs with
    | [.agg a,.agg b,.int k x]=>some (wA .u8 16 (hfL (dL8 a) (dL8 b) x),22,8,16,(((a=wA .u8 32 (dL8 a)∧By (dL8 a))∧(b=wA .u8 12 (dL8 b)∧By (dL8 b)))∧k= .u8∧0≤x∧x<256))
    |_=>none
  ok := fun mem xs cs t n k c e hc w β hw hg => by
    split at e
    · rename_i a b q x
      simp only[Option.some.injEq,Prod.mk.injEq] at e
      obtain⟨rfl,rfl,rfl,rfl,rfl⟩:=e
      obtain⟨⟨⟨h1,h2⟩,h3,h4⟩,rfl,hx⟩:=hc
      have:=sHf_c (dL8 a) (dL8 b) x h2 h4 hx w β (fun i x hx=>by simp at hx) (fun i hi=>by omega)
      rw[← h1,← h3] at this
      exact this
    · cases e
  call:=call_of Try.func31 (by kernel_rfl) (by kernel_rfl)
theorem hfL_w (K N:List Int) (x:Int):hfL (dL8 (wA .u8 32 K)) (dL8 (wA .u8 12 N)) x=hfL K N x:=by
  have e:blkL (dL8 (wA .u8 12 N)) x=blkL N x:=List.map_congr_left fun i hi=>by
    have hi:i<16:=by simpa using hi
    split
    · rfl
    · rw[dL8_wA,if_pos (by omega)]
  unfold hfL
  rw[e,← encL_q K (blkL N x),← encL_q (dL8 (wA .u8 32 K)) (blkL N x),← dL8_self 32 K]
theorem hfL_by (K N:List Int) (x:Int):By (hfL K N x):=encL_by _ _
def kyL (K N:List Int) (s n:Nat):List Int:=(List.range (8*n)).map fun i=>(hfL K N ((s+i / 8:Nat):Int)).getD (i%8) 0
theorem kyL_by (K N:List Int) (s n:Nat):By (kyL K N s n):=by_ofFn fun i _=>hfL_by _ _ _ _
theorem kyL_at {K N:List Int} {s n i:Nat}:(kyL K N s n).getD i 0=if i<8*n then(hfL K N ((s+i / 8:Nat):Int)).getD (i%8) 0 else 0:=by
  unfold kyL
  by_cases h:i<8*n
  · rw[ofFn_at h,if_pos h]
  · rw[if_neg h,List.getD_eq_getElem?_getD,List.getElem?_eq_none (by simpa using Nat.not_lt.1 h)];rfl
theorem kyL_cp (K N:List Int) (s m k o q:Nat) (x:Int) (hx:x=((s+k:Nat):Int)) (ho:o=8*k) (hq:q=8) (hm:8*k+8≤m):(o+q≤(wA .u8 m (kyL K N s k)).size∧0+q≤(wA .u8 16 (hfL (dL8 (wA .u8 32 K)) (dL8 (wA .u8 12 N)) x)).size)∧((wA .u8 16 (hfL (dL8 (wA .u8 32 K)) (dL8 (wA .u8 12 N)) x)).extract 0 (0+q)).all (fun v=>v.oneCell')=true∧Calm.splice (wA .u8 m (kyL K N s k)) o ((wA .u8 16 (hfL (dL8 (wA .u8 32 K)) (dL8 (wA .u8 12 N)) x)).extract 0 (0+q))=wA .u8 m (kyL K N s (k+1)):=by
  rw[hfL_w]
  subst ho hx
  refine spl_w hq hm (by decide) fun i hi=> ?_
  rw[kyL_at,kyL_at]
  by_cases h:i<8*k
  · rw[if_pos (by omega),if_pos h,if_neg (by omega)]
  · by_cases h2 : i < 8 * (k + 1)
    · rw[if_pos h2,if_pos (by omega),show i / 8=k by omega,show 0+(i - 8*k)=i%8 by omega]
    · rw[if_neg h2,if_neg h,if_neg (by omega)]
def sKyA_h (i:Nat):Hn:=if i=4 then⟨0,[(0,true),(3,true),(4,true),(5,true),(1,true),(6,true),(2,true),(7,false),(8,false)],[],[0,1,3],[]⟩ else if i=9 then⟨0,[(0,true),(3,true),(4,true),(5,true),(1,true),(6,true),(2,true),(7,true),(8,false),(9,false)],[],[0,1,2,4,5],[]⟩ else⟨0,[],[],[],[]⟩
abbrev sKyA_R (w:List Nat) (S:FS) (e:Exit) (K:FS→Prop):Prop:=Rn Try.prog (cAt w (bdy Try.f14)) S e K 0
structure sKyA_c (K N:List Int):Prop where
  hK:By K
  hN:By N
variable {k_3:sKyA_c K N}
abbrev sKyA (_:sKyA_c K N):FS:=⟨true,37,[(0,.agg (wA .u8 32 K)),(1,.agg (wA .u8 12 N))],[]⟩
abbrev sKyB (_:sKyA_c K N):FS:=⟨false,37,[(4,.pointer (some ⟨2,0,none⟩)),(5,.pointer (some ⟨3,0,none⟩))],[((wA .u8 32 K),(27,(0,0))),((wA .u8 12 N),(28,(0,0))),((wA .u8 16 (kyL K N 0 2)),(22,(0,0))),((wA .u8 32 (kyL K N 2 4)),(27,(0,0))),((wA .u8 16 (hfL (dL8 (wA .u8 32 K)) (dL8 (wA .u8 12 N)) 0)),(22,(0,0))),((wA .u8 16 (hfL (dL8 (wA .u8 32 K)) (dL8 (wA .u8 12 N)) 1)),(22,(0,0))),((wA .u8 16 (hfL (dL8 (wA .u8 32 K)) (dL8 (wA .u8 12 N)) 2)),(22,(0,0))),((wA .u8 16 (hfL (dL8 (wA .u8 32 K)) (dL8 (wA .u8 12 N)) 3)),(22,(0,0))),((wA .u8 16 (hfL (dL8 (wA .u8 32 K)) (dL8 (wA .u8 12 N)) 4)),(22,(0,0))),((wA .u8 16 (hfL (dL8 (wA .u8 32 K)) (dL8 (wA .u8 12 N)) 5)),(22,(0,0)))]⟩
set_option maxRecDepth 100000 in
theorem sKy0':sKyA_R [] (sKyA k_3) .ret (fun z_=>z_=sKyB k_3):=by
  have⟨hK,hN⟩:=id k_3
  exact rn_ev (yty.enm tabC3 [mHalf] 0) sKyA_h mixed _ none [none,none,none,some (.agg (wA .u8 16 (kyL K N 0 1))),none,none,none,none,some (.agg (wA .u8 16 (kyL K N 0 2))),none,none,none,none,none,none,some (.agg (wA .u8 32 (kyL K N 2 1))),none,none,none,none,none,some (.agg (wA .u8 32 (kyL K N 2 2))),none,none,none,none,none,some (.agg (wA .u8 32 (kyL K N 2 3))),none,none,none,none,none,some (.agg (wA .u8 32 (kyL K N 2 4)))] [(22,((((wA .u8 32 K)=wA .u8 32 (dL8 (wA .u8 32 K))∧By (dL8 (wA .u8 32 K)))∧((wA .u8 12 N)=wA .u8 12 (dL8 (wA .u8 12 N))∧By (dL8 (wA .u8 12 N))))∧IntKind.u8=IntKind.u8∧(0:Int)≤0∧(0:Int)<256)),(0,((0+Nat.min 8 16≤(wA .u8 16 []).size∧0+Nat.min 8 16≤(wA .u8 16 (hfL (dL8 (wA .u8 32 K)) (dL8 (wA .u8 12 N)) 0)).size)∧((wA .u8 16 (hfL (dL8 (wA .u8 32 K)) (dL8 (wA .u8 12 N)) 0)).extract 0 (0+Nat.min 8 16)).all (fun v=>v.oneCell')=true∧Calm.splice (wA .u8 16 []) 0 ((wA .u8 16 (hfL (dL8 (wA .u8 32 K)) (dL8 (wA .u8 12 N)) 0)).extract 0 (0+Nat.min 8 16))=(wA .u8 16 (kyL K N 0 1)))),(24,((((wA .u8 32 K)=wA .u8 32 (dL8 (wA .u8 32 K))∧By (dL8 (wA .u8 32 K)))∧((wA .u8 12 N)=wA .u8 12 (dL8 (wA .u8 12 N))∧By (dL8 (wA .u8 12 N))))∧IntKind.u8=IntKind.u8∧(0:Int)≤1∧(1:Int)<256)),(0,((8+Nat.min 8 8≤(wA .u8 16 (kyL K N 0 1)).size∧0+Nat.min 8 8≤(wA .u8 16 (hfL (dL8 (wA .u8 32 K)) (dL8 (wA .u8 12 N)) 1)).size)∧((wA .u8 16 (hfL (dL8 (wA .u8 32 K)) (dL8 (wA .u8 12 N)) 1)).extract 0 (0+Nat.min 8 8)).all (fun v=>v.oneCell')=true∧Calm.splice (wA .u8 16 (kyL K N 0 1)) 8 ((wA .u8 16 (hfL (dL8 (wA .u8 32 K)) (dL8 (wA .u8 12 N)) 1)).extract 0 (0+Nat.min 8 8))=(wA .u8 16 (kyL K N 0 2)))),(30,((((wA .u8 32 K)=wA .u8 32 (dL8 (wA .u8 32 K))∧By (dL8 (wA .u8 32 K)))∧((wA .u8 12 N)=wA .u8 12 (dL8 (wA .u8 12 N))∧By (dL8 (wA .u8 12 N))))∧IntKind.u8=IntKind.u8∧(0:Int)≤2∧(2:Int)<256)),(0,((0+Nat.min 8 32≤(wA .u8 32 []).size∧0+Nat.min 8 32≤(wA .u8 16 (hfL (dL8 (wA .u8 32 K)) (dL8 (wA .u8 12 N)) 2)).size)∧((wA .u8 16 (hfL (dL8 (wA .u8 32 K)) (dL8 (wA .u8 12 N)) 2)).extract 0 (0+Nat.min 8 32)).all (fun v=>v.oneCell')=true∧Calm.splice (wA .u8 32 []) 0 ((wA .u8 16 (hfL (dL8 (wA .u8 32 K)) (dL8 (wA .u8 12 N)) 2)).extract 0 (0+Nat.min 8 32))=(wA .u8 32 (kyL K N 2 1)))),(26,((((wA .u8 32 K)=wA .u8 32 (dL8 (wA .u8 32 K))∧By (dL8 (wA .u8 32 K)))∧((wA .u8 12 N)=wA .u8 12 (dL8 (wA .u8 12 N))∧By (dL8 (wA .u8 12 N))))∧IntKind.u8=IntKind.u8∧(0:Int)≤3∧(3:Int)<256)),(0,((8+Nat.min 8 24≤(wA .u8 32 (kyL K N 2 1)).size∧0+Nat.min 8 24≤(wA .u8 16 (hfL (dL8 (wA .u8 32 K)) (dL8 (wA .u8 12 N)) 3)).size)∧((wA .u8 16 (hfL (dL8 (wA .u8 32 K)) (dL8 (wA .u8 12 N)) 3)).extract 0 (0+Nat.min 8 24)).all (fun v=>v.oneCell')=true∧Calm.splice (wA .u8 32 (kyL K N 2 1)) 8 ((wA .u8 16 (hfL (dL8 (wA .u8 32 K)) (dL8 (wA .u8 12 N)) 3)).extract 0 (0+Nat.min 8 24))=(wA .u8 32 (kyL K N 2 2)))),(26,((((wA .u8 32 K)=wA .u8 32 (dL8 (wA .u8 32 K))∧By (dL8 (wA .u8 32 K)))∧((wA .u8 12 N)=wA .u8 12 (dL8 (wA .u8 12 N))∧By (dL8 (wA .u8 12 N))))∧IntKind.u8=IntKind.u8∧(0:Int)≤4∧(4:Int)<256)),(0,((16+Nat.min 8 16≤(wA .u8 32 (kyL K N 2 2)).size∧0+Nat.min 8 16≤(wA .u8 16 (hfL (dL8 (wA .u8 32 K)) (dL8 (wA .u8 12 N)) 4)).size)∧((wA .u8 16 (hfL (dL8 (wA .u8 32 K)) (dL8 (wA .u8 12 N)) 4)).extract 0 (0+Nat.min 8 16)).all (fun v=>v.oneCell')=true∧Calm.splice (wA .u8 32 (kyL K N 2 2)) 16 ((wA .u8 16 (hfL (dL8 (wA .u8 32 K)) (dL8 (wA .u8 12 N)) 4)).extract 0 (0+Nat.min 8 16))=(wA .u8 32 (kyL K N 2 3)))),(26,((((wA .u8 32 K)=wA .u8 32 (dL8 (wA .u8 32 K))∧By (dL8 (wA .u8 32 K)))∧((wA .u8 12 N)=wA .u8 12 (dL8 (wA .u8 12 N))∧By (dL8 (wA .u8 12 N))))∧IntKind.u8=IntKind.u8∧(0:Int)≤5∧(5:Int)<256)),(0,((24+Nat.min 8 8≤(wA .u8 32 (kyL K N 2 3)).size∧0+Nat.min 8 8≤(wA .u8 16 (hfL (dL8 (wA .u8 32 K)) (dL8 (wA .u8 12 N)) 5)).size)∧((wA .u8 16 (hfL (dL8 (wA .u8 32 K)) (dL8 (wA .u8 12 N)) 5)).extract 0 (0+Nat.min 8 8)).all (fun v=>v.oneCell')=true∧Calm.splice (wA .u8 32 (kyL K N 2 3)) 24 ((wA .u8 16 (hfL (dL8 (wA .u8 32 K)) (dL8 (wA .u8 12 N)) 5)).extract 0 (0+Nat.min 8 8))=(wA .u8 32 (kyL K N 2 4)))),(10,((wA .u8 16 (kyL K N 0 2)).all (fun v=>v.oneCell')=true)),(0,((wA .u8 32 (kyL K N 2 4)).all (fun v=>v.oneCell')=true))] 0 (fun j M=>by kernel_rfl) (A1 ⟨⟨dq hK,dq hN⟩,rfl,by decide,by decide⟩ (A1 (kyL_cp K N 0 16 0 _ _ _ rfl (by decide) (by decide) (by decide)) (A1 ⟨⟨dq hK,dq hN⟩,rfl,by decide,by decide⟩ (A1 (kyL_cp K N 0 16 1 _ _ _ rfl (by decide) (by decide) (by decide)) (A1 ⟨⟨dq hK,dq hN⟩,rfl,by decide,by decide⟩ (A1 (kyL_cp K N 2 32 0 _ _ _ rfl (by decide) (by decide) (by decide)) (A1 ⟨⟨dq hK,dq hN⟩,rfl,by decide,by decide⟩ (A1 (kyL_cp K N 2 32 1 _ _ _ rfl (by decide) (by decide) (by decide)) (A1 ⟨⟨dq hK,dq hN⟩,rfl,by decide,by decide⟩ (A1 (kyL_cp K N 2 32 2 _ _ _ rfl (by decide) (by decide) (by decide)) (A1 ⟨⟨dq hK,dq hN⟩,rfl,by decide,by decide⟩ (A1 (kyL_cp K N 2 32 3 _ _ _ rfl (by decide) (by decide) (by decide)) (A1 (wA_one _ _ _) (A1 (wA_one _ _ _) A0)))))))))))))) rfl
abbrev sKyA_s (K N:List Int) (j:Nat→Value):List Value:=([.agg (wA .u8 32 K),.agg (wA .u8 12 N)] ++ (JU 35))
abbrev sKyA_m (K N:List Int):List Mb:= []
abbrev sKyB_s (K N:List Int) (j:Nat→Value):List Value:=(J j 0 4 ++ ([.pointer (some ⟨2,0,none⟩),.pointer (some ⟨3,0,none⟩)] ++ (J j 6 31)))
abbrev sKyB_m (K N:List Int):List Mb:= [((wA .u8 32 K),(27,(0,0))),((wA .u8 12 N),(28,(0,0))),((wA .u8 16 (kyL K N 0 2)),(22,(0,0))),((wA .u8 32 (kyL K N 2 4)),(27,(0,0))),((wA .u8 16 (hfL (dL8 (wA .u8 32 K)) (dL8 (wA .u8 12 N)) 0)),(22,(0,0))),((wA .u8 16 (hfL (dL8 (wA .u8 32 K)) (dL8 (wA .u8 12 N)) 1)),(22,(0,0))),((wA .u8 16 (hfL (dL8 (wA .u8 32 K)) (dL8 (wA .u8 12 N)) 2)),(22,(0,0))),((wA .u8 16 (hfL (dL8 (wA .u8 32 K)) (dL8 (wA .u8 12 N)) 3)),(22,(0,0))),((wA .u8 16 (hfL (dL8 (wA .u8 32 K)) (dL8 (wA .u8 12 N)) 4)),(22,(0,0))),((wA .u8 16 (hfL (dL8 (wA .u8 32 K)) (dL8 (wA .u8 12 N)) 5)),(22,(0,0)))]
theorem sKy0 (K N:List Int) (j:Nat→Value) (hK:By K) (hN:By N)  {c0:Prop} {ch0:List (Option Value)}:Runs Try.prog (cAt [] (bdy Try.f14)) ⟨sKyA_s K N j,sKyA_m K N,c0,ch0⟩ (fun e s=>e= .ret∧∃(j:Nat→Value) (c:Prop) (ch:List (Option Value)),s=⟨sKyB_s K N j,sKyB_m K N,c,ch⟩) 0:=by
  refine(Rn.old (sKy0' (k_3:=(⟨hK,hN⟩:sKyA_c K N))) j (by kernel_rfl)).mono ?_
  rintro e s ⟨rfl,_,rfl,j,c,ch,rfl⟩
  exact⟨rfl,j,c,ch,by kernel_rfl⟩
theorem sKy_c (K N:List Int) (hK:By K) (hN:By N):Pure Try.prog 14 #[.agg (wA .u8 32 K),.agg (wA .u8 12 N)] (.tuple #[.agg (wA .u8 16 (kyL K N 0 2)),.agg (wA .u8 32 (kyL K N 2 4))]):=by
  refine pure_runs (E:=(yty.enm tabC3 [mHalf] 0)) Try.func14 (c:=bdy Try.f14) (by kernel_rfl) (args:= [.agg (wA .u8 32 K),.agg (wA .u8 12 N)]) (by kernel_rfl) (K:=fun e s=>e= .ret∧resS (yty.enm tabC3 [mHalf] 0) s Try.f14.results.toList=some [.agg (wA .u8 16 (kyL K N 0 2)),.agg (wA .u8 32 (kyL K N 2 4))]) ?_ (fun e s h=>⟨h.1,_,h.2,rfl⟩)
  refine(sKy0 K N (fun _=>undef) hK hN).mono ?_
  rintro e s ⟨rfl,j,c,ch,rfl⟩
  exact⟨rfl,by kernel_rfl⟩
theorem kyL_w (K N:List Int) (s n:Nat):kyL (dL8 (wA .u8 32 K)) (dL8 (wA .u8 12 N)) s n=kyL K N s n:=by
  unfold kyL
  simp only[hfL_w]
def pky:Entry Try.prog:=entLL Try.func14 (by kernel_rfl) (by kernel_rfl) 32 12 (fun K N=> .tuple #[.agg (wA .u8 16 (kyL K N 0 2)),.agg (wA .u8 32 (kyL K N 2 4))]) (fun K N h1 h2=>sKy_c K N h1 h2)
def tabW1:List (Entry Try.prog):=pky :: pen :: tabV2
end Go.Proofs.Ythldpfindbhkeaa
