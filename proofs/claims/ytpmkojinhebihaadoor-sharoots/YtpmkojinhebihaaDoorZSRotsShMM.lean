import Derived.Test.YtpmkojinhebihaaDoorZSRotsShL
set_option linter.unusedSimpArgs false
set_option linter.unusedVariables false
/-! Digits of sixteen bits: a product: pieces. -/
namespace Go.Proofs.YtpmkojinhebihaaDoor
open Go.RowKit Go.Ev
def tmV (A B C:List Int) (x:Int) (i k:Nat):Int:=IntKind.u64.wrap (IntKind.u64.wrap (x+C.getD (i+k) 0)+IntKind.u64.wrap (A.getD i 0*B.getD k 0))
def tiA_h (i:Nat):Hn:=if i=9 then⟨16,[],[],[],[]⟩ else⟨0,[],[],[],[]⟩
def tiA_a (A B:List Int):List Value:= [.agg (wA .u64 16 A),.agg (wA .u64 16 B),undef,undef,undef,undef,undef,undef,undef,undef,undef,undef,undef,undef,undef,undef,undef,undef,undef,undef,undef,undef,undef,undef,undef,undef,undef,undef,undef,undef,undef,undef,undef,undef,undef,undef,undef,undef,undef,undef,undef,undef,undef]
def tiA_b (A B:List Int):List Value:= [.agg (wA .u64 16 A),.agg (wA .u64 16 B),.pointer (some ⟨0,0,none⟩),.pointer (some ⟨1,0,none⟩),.pointer (some ⟨2,0,none⟩),undef,undef,undef,undef,undef,undef,undef,undef,undef,undef,undef,undef,undef,undef,undef,undef,undef,undef,undef,undef,undef,undef,undef,undef,undef,undef,undef,undef,undef,undef,undef,undef,undef,undef,undef,undef,undef,undef]
theorem tiA_0 (A B:List Int):evC (yty.en tabS9) tiA_h (cAt [0] (bdy Tryd.f30)) ⟨tiA_a A B,[],True,[]⟩=some (.normal,⟨tiA_b A B,[((wA .u64 16 A),(35,(0,0))),((wA .u64 16 B),(35,(0,0))),((wA .u64 16 []),(35,(0,0)))],True,[]⟩):=by kernel_rfl
theorem tiA_r (A B:List Int)    {c0:Prop} {ch0:List (Option Value)}:Runs Tryd.prog (cAt [0] (bdy Tryd.f30)) ⟨tiA_a A B,[],c0,ch0⟩ (fun e s=>e= .normal∧∃ c ch,s=⟨tiA_b A B,[((wA .u64 16 A),(35,(0,0))),((wA .u64 16 B),(35,(0,0))),((wA .u64 16 []),(35,(0,0)))],c,ch⟩):=by
  refine(runs_ev mixed [] (tiA_0 A B ) trivial).mono ?_
  rintro e s ⟨rfl,rfl⟩
  exact⟨rfl,_,_,rfl⟩
def tiB_h (i:Nat):Hn:=if i=9 then⟨16,[],[],[],[]⟩ else⟨0,[],[],[],[]⟩
def tiB_a (A B:List Int):List Value:= [.agg (wA .u64 16 A),.agg (wA .u64 16 B),.pointer (some ⟨0,0,none⟩),.pointer (some ⟨1,0,none⟩),.pointer (some ⟨2,0,none⟩),undef,undef,undef,undef,undef,undef,undef,undef,undef,undef,undef,undef,undef,undef,undef,undef,undef,undef,undef,undef,undef,undef,undef,undef,undef,undef,undef,undef,undef,undef,undef,undef,undef,undef,undef,undef,undef,undef]
def tiB_b (A B:List Int):List Value:= [.agg (wA .u64 16 A),.agg (wA .u64 16 B),.pointer (some ⟨0,0,none⟩),.pointer (some ⟨1,0,none⟩),.pointer (some ⟨2,0,none⟩),.pointer (some ⟨3,0,none⟩),undef,undef,undef,undef,undef,undef,undef,undef,undef,undef,undef,undef,undef,undef,undef,undef,undef,undef,undef,undef,undef,undef,undef,undef,undef,undef,undef,undef,undef,undef,undef,undef,undef,undef,undef,undef,undef]
theorem tiB_0 (A B:List Int):evC (yty.en tabS9) tiB_h (cAt [1,0] (bdy Tryd.f30)) ⟨tiB_a A B,[((wA .u64 16 A),(35,(0,0))),((wA .u64 16 B),(35,(0,0))),((wA .u64 16 []),(35,(0,0)))],True,[]⟩=some (.normal,⟨tiB_b A B,[((wA .u64 16 A),(35,(0,0))),((wA .u64 16 B),(35,(0,0))),((wA .u64 16 []),(35,(0,0))),((wA .u64 16 []),(35,(0,0)))],True,[]⟩):=by kernel_rfl
theorem tiB_r (A B:List Int)    {c0:Prop} {ch0:List (Option Value)}:Runs Tryd.prog (cAt [1,0] (bdy Tryd.f30)) ⟨tiB_a A B,[((wA .u64 16 A),(35,(0,0))),((wA .u64 16 B),(35,(0,0))),((wA .u64 16 []),(35,(0,0)))],c0,ch0⟩ (fun e s=>e= .normal∧∃ c ch,s=⟨tiB_b A B,[((wA .u64 16 A),(35,(0,0))),((wA .u64 16 B),(35,(0,0))),((wA .u64 16 []),(35,(0,0))),((wA .u64 16 []),(35,(0,0)))],c,ch⟩):=by
  refine(runs_ev mixed [] (tiB_0 A B ) trivial).mono ?_
  rintro e s ⟨rfl,rfl⟩
  exact⟨rfl,_,_,rfl⟩
def tiC_h (i:Nat):Hn:=if i=9 then⟨16,[],[],[],[]⟩ else⟨0,[],[],[],[]⟩
def tiC_a (A B:List Int):List Value:= [.agg (wA .u64 16 A),.agg (wA .u64 16 B),.pointer (some ⟨0,0,none⟩),.pointer (some ⟨1,0,none⟩),.pointer (some ⟨2,0,none⟩),.pointer (some ⟨3,0,none⟩),undef,undef,undef,undef,undef,undef,undef,undef,undef,undef,undef,undef,undef,undef,undef,undef,undef,undef,undef,undef,undef,undef,undef,undef,undef,undef,undef,undef,undef,undef,undef,undef,undef,undef,undef,undef,undef]
def tiC_b (A B:List Int):List Value:= [.agg (wA .u64 16 A),.agg (wA .u64 16 B),.pointer (some ⟨0,0,none⟩),.pointer (some ⟨1,0,none⟩),.pointer (some ⟨2,0,none⟩),.pointer (some ⟨3,0,none⟩),.int .i64 0,undef,undef,undef,undef,undef,undef,undef,undef,undef,undef,undef,undef,undef,undef,undef,undef,undef,undef,undef,undef,undef,undef,undef,undef,undef,undef,undef,undef,undef,undef,undef,undef,undef,undef,undef,undef]
theorem tiC_0 (A B:List Int):evC (yty.en tabS9) tiC_h (cAt [1,1,0,0] (bdy Tryd.f30)) ⟨tiC_a A B,[((wA .u64 16 A),(35,(0,0))),((wA .u64 16 B),(35,(0,0))),((wA .u64 16 []),(35,(0,0))),((wA .u64 16 []),(35,(0,0)))],True,[]⟩=some (.normal,⟨tiC_b A B,[((wA .u64 16 A),(35,(0,0))),((wA .u64 16 B),(35,(0,0))),((wA .u64 16 []),(35,(0,0))),((wA .u64 16 []),(35,(0,0)))],(True∧True),[]⟩):=by kernel_rfl
theorem tiC_r (A B:List Int)    {c0:Prop} {ch0:List (Option Value)}:Runs Tryd.prog (cAt [1,1,0,0] (bdy Tryd.f30)) ⟨tiC_a A B,[((wA .u64 16 A),(35,(0,0))),((wA .u64 16 B),(35,(0,0))),((wA .u64 16 []),(35,(0,0))),((wA .u64 16 []),(35,(0,0)))],c0,ch0⟩ (fun e s=>e= .normal∧∃ c ch,s=⟨tiC_b A B,[((wA .u64 16 A),(35,(0,0))),((wA .u64 16 B),(35,(0,0))),((wA .u64 16 []),(35,(0,0))),((wA .u64 16 []),(35,(0,0)))],c,ch⟩):=by
  refine(runs_ev mixed [] (tiC_0 A B ) ⟨trivial,trivial⟩).mono ?_
  rintro e s ⟨rfl,rfl⟩
  exact⟨rfl,_,_,rfl⟩
def tiD_h (i:Nat):Hn:=if i=9 then⟨16,[],[],[],[]⟩ else⟨0,[],[],[],[]⟩
def tiD_a (A B C:List Int) (i:Nat) (j:Nat→Value):List Value:= [j 0,j 1,.pointer (some ⟨0,0,none⟩),.pointer (some ⟨1,0,none⟩),.pointer (some ⟨2,0,none⟩),.pointer (some ⟨3,0,none⟩),.int .i64 (i:Int),j 7,j 8,j 9,j 10,j 11,j 12,j 13,j 14,j 15,j 16,j 17,j 18,j 19,j 20,j 21,j 22,j 23,j 24,j 25,j 26,j 27,j 28,j 29,j 30,j 31,j 32,j 33,j 34,j 35,j 36,j 37,j 38,j 39,j 40,j 41,j 42]
def tiD_b (A B C:List Int) (i:Nat) (j:Nat→Value):List Value:= [j 0,j 1,.pointer (some ⟨0,0,none⟩),.pointer (some ⟨1,0,none⟩),.pointer (some ⟨2,0,none⟩),.pointer (some ⟨3,0,none⟩),.int .i64 (i:Int),j 7,j 8,.int .i64 (i:Int),.bool true,j 11,j 12,j 13,j 14,j 15,j 16,j 17,j 18,j 19,j 20,j 21,j 22,j 23,j 24,j 25,j 26,j 27,j 28,j 29,j 30,j 31,j 32,j 33,j 34,j 35,j 36,j 37,j 38,j 39,j 40,j 41,j 42]
theorem tiD_0 (A B C:List Int) (i:Nat) (j:Nat→Value):evC (yty.en tabS9) tiD_h (cAt [1,1,0,1,0,0,0] (bdy Tryd.f30)) ⟨tiD_a A B C i j,[((wA .u64 16 A),(35,(0,0))),((wA .u64 16 B),(35,(0,0))),((wA .u64 16 []),(35,(0,0))),((wA .u64 16 C),(35,(0,0)))],True,[some (.bool true)]⟩=some (.normal,⟨tiD_b A B C i j,[((wA .u64 16 A),(35,(0,0))),((wA .u64 16 B),(35,(0,0))),((wA .u64 16 []),(35,(0,0))),((wA .u64 16 C),(35,(0,0)))],((True∧True)∧(True∧(decide ((i:Int)<16))=true)),[]⟩):=by kernel_rfl
theorem tiD_r (A B C:List Int) (i:Nat) (j:Nat→Value)  (h0:(decide ((i:Int)<16))=true) {c0:Prop} {ch0:List (Option Value)}:Runs Tryd.prog (cAt [1,1,0,1,0,0,0] (bdy Tryd.f30)) ⟨tiD_a A B C i j,[((wA .u64 16 A),(35,(0,0))),((wA .u64 16 B),(35,(0,0))),((wA .u64 16 []),(35,(0,0))),((wA .u64 16 C),(35,(0,0)))],c0,ch0⟩ (fun e s=>e= .normal∧∃ c ch,s=⟨tiD_b A B C i j,[((wA .u64 16 A),(35,(0,0))),((wA .u64 16 B),(35,(0,0))),((wA .u64 16 []),(35,(0,0))),((wA .u64 16 C),(35,(0,0)))],c,ch⟩):=by
  refine(runs_ev mixed [some (.bool true)] (tiD_0 A B C i j) ⟨⟨trivial,trivial⟩,⟨trivial,h0⟩⟩).mono ?_
  rintro e s ⟨rfl,rfl⟩
  exact⟨rfl,_,_,rfl⟩
def tiX_h (i:Nat):Hn:=if i=9 then⟨16,[],[],[],[]⟩ else⟨0,[],[],[],[]⟩
def tiX_a (A B C:List Int) (i:Nat) (j:Nat→Value):List Value:= [j 0,j 1,.pointer (some ⟨0,0,none⟩),.pointer (some ⟨1,0,none⟩),.pointer (some ⟨2,0,none⟩),.pointer (some ⟨3,0,none⟩),.int .i64 (i:Int),j 7,j 8,j 9,j 10,j 11,j 12,j 13,j 14,j 15,j 16,j 17,j 18,j 19,j 20,j 21,j 22,j 23,j 24,j 25,j 26,j 27,j 28,j 29,j 30,j 31,j 32,j 33,j 34,j 35,j 36,j 37,j 38,j 39,j 40,j 41,j 42]
def tiX_b (A B C:List Int) (i:Nat) (j:Nat→Value):List Value:= [j 0,j 1,.pointer (some ⟨0,0,none⟩),.pointer (some ⟨1,0,none⟩),.pointer (some ⟨2,0,none⟩),.pointer (some ⟨3,0,none⟩),.int .i64 (i:Int),j 7,j 8,.int .i64 (i:Int),.bool false,j 11,j 12,j 13,j 14,j 15,j 16,j 17,j 18,j 19,j 20,j 21,j 22,j 23,j 24,j 25,j 26,j 27,j 28,j 29,j 30,j 31,j 32,j 33,j 34,j 35,j 36,j 37,j 38,j 39,j 40,j 41,j 42]
theorem tiX_0 (A B C:List Int) (i:Nat) (j:Nat→Value):evC (yty.en tabS9) tiX_h (cAt [1,1,0,1,0,0,0] (bdy Tryd.f30)) ⟨tiX_a A B C i j,[((wA .u64 16 A),(35,(0,0))),((wA .u64 16 B),(35,(0,0))),((wA .u64 16 []),(35,(0,0))),((wA .u64 16 C),(35,(0,0)))],True,[some (.bool false)]⟩=some ((.exit 0),⟨tiX_b A B C i j,[((wA .u64 16 A),(35,(0,0))),((wA .u64 16 B),(35,(0,0))),((wA .u64 16 []),(35,(0,0))),((wA .u64 16 C),(35,(0,0)))],((True∧True)∧(True∧(decide ((i:Int)<16))=false)),[]⟩):=by kernel_rfl
theorem tiX_r (A B C:List Int) (i:Nat) (j:Nat→Value)  (h0:(decide ((i:Int)<16))=false) {c0:Prop} {ch0:List (Option Value)}:Runs Tryd.prog (cAt [1,1,0,1,0,0,0] (bdy Tryd.f30)) ⟨tiX_a A B C i j,[((wA .u64 16 A),(35,(0,0))),((wA .u64 16 B),(35,(0,0))),((wA .u64 16 []),(35,(0,0))),((wA .u64 16 C),(35,(0,0)))],c0,ch0⟩ (fun e s=>e=(.exit 0)∧∃ c ch,s=⟨tiX_b A B C i j,[((wA .u64 16 A),(35,(0,0))),((wA .u64 16 B),(35,(0,0))),((wA .u64 16 []),(35,(0,0))),((wA .u64 16 C),(35,(0,0)))],c,ch⟩):=by
  refine(runs_ev mixed [some (.bool false)] (tiX_0 A B C i j) ⟨⟨trivial,trivial⟩,⟨trivial,h0⟩⟩).mono ?_
  rintro e s ⟨rfl,rfl⟩
  exact⟨rfl,_,_,rfl⟩
def tiE_h (i:Nat):Hn:=if i=9 then⟨16,[],[],[],[]⟩ else⟨0,[],[],[],[]⟩
def tiE_a (A B C:List Int) (i:Nat) (j:Nat→Value):List Value:= [j 0,j 1,.pointer (some ⟨0,0,none⟩),.pointer (some ⟨1,0,none⟩),.pointer (some ⟨2,0,none⟩),.pointer (some ⟨3,0,none⟩),.int .i64 (i:Int),j 7,j 8,j 9,j 10,j 11,j 12,j 13,j 14,j 15,j 16,j 17,j 18,j 19,j 20,j 21,j 22,j 23,j 24,j 25,j 26,j 27,j 28,j 29,j 30,j 31,j 32,j 33,j 34,j 35,j 36,j 37,j 38,j 39,j 40,j 41,j 42]
def tiE_b (A B C:List Int) (i:Nat) (j:Nat→Value):List Value:= [j 0,j 1,.pointer (some ⟨0,0,none⟩),.pointer (some ⟨1,0,none⟩),.pointer (some ⟨2,0,none⟩),.pointer (some ⟨3,0,none⟩),.int .i64 (i:Int),.int .u64 0,j 8,j 9,j 10,j 11,j 12,j 13,j 14,j 15,j 16,j 17,j 18,j 19,j 20,j 21,j 22,j 23,j 24,j 25,j 26,j 27,j 28,j 29,j 30,j 31,j 32,j 33,j 34,j 35,j 36,j 37,j 38,j 39,j 40,j 41,j 42]
theorem tiE_0 (A B C:List Int) (i:Nat) (j:Nat→Value):evC (yty.en tabS9) tiE_h (cAt [1,1,0,1,0,0,1,0,0,0] (bdy Tryd.f30)) ⟨tiE_a A B C i j,[((wA .u64 16 A),(35,(0,0))),((wA .u64 16 B),(35,(0,0))),((wA .u64 16 []),(35,(0,0))),((wA .u64 16 C),(35,(0,0)))],True,[]⟩=some (.normal,⟨tiE_b A B C i j,[((wA .u64 16 A),(35,(0,0))),((wA .u64 16 B),(35,(0,0))),((wA .u64 16 []),(35,(0,0))),((wA .u64 16 C),(35,(0,0)))],(True∧True),[]⟩):=by kernel_rfl
theorem tiE_r (A B C:List Int) (i:Nat) (j:Nat→Value)   {c0:Prop} {ch0:List (Option Value)}:Runs Tryd.prog (cAt [1,1,0,1,0,0,1,0,0,0] (bdy Tryd.f30)) ⟨tiE_a A B C i j,[((wA .u64 16 A),(35,(0,0))),((wA .u64 16 B),(35,(0,0))),((wA .u64 16 []),(35,(0,0))),((wA .u64 16 C),(35,(0,0)))],c0,ch0⟩ (fun e s=>e= .normal∧∃ c ch,s=⟨tiE_b A B C i j,[((wA .u64 16 A),(35,(0,0))),((wA .u64 16 B),(35,(0,0))),((wA .u64 16 []),(35,(0,0))),((wA .u64 16 C),(35,(0,0)))],c,ch⟩):=by
  refine(runs_ev mixed [] (tiE_0 A B C i j) ⟨trivial,trivial⟩).mono ?_
  rintro e s ⟨rfl,rfl⟩
  exact⟨rfl,_,_,rfl⟩
def tiF_h (i:Nat):Hn:=if i=9 then⟨16,[],[],[],[]⟩ else⟨0,[],[],[],[]⟩
def tiF_a (A B C:List Int) (i:Nat) (j:Nat→Value):List Value:= [j 0,j 1,.pointer (some ⟨0,0,none⟩),.pointer (some ⟨1,0,none⟩),.pointer (some ⟨2,0,none⟩),.pointer (some ⟨3,0,none⟩),.int .i64 (i:Int),.int .u64 0,j 8,j 9,j 10,j 11,j 12,j 13,j 14,j 15,j 16,j 17,j 18,j 19,j 20,j 21,j 22,j 23,j 24,j 25,j 26,j 27,j 28,j 29,j 30,j 31,j 32,j 33,j 34,j 35,j 36,j 37,j 38,j 39,j 40,j 41,j 42]
def tiF_b (A B C:List Int) (i:Nat) (j:Nat→Value):List Value:= [j 0,j 1,.pointer (some ⟨0,0,none⟩),.pointer (some ⟨1,0,none⟩),.pointer (some ⟨2,0,none⟩),.pointer (some ⟨3,0,none⟩),.int .i64 (i:Int),.int .u64 0,.int .i64 0,j 9,j 10,j 11,j 12,j 13,j 14,j 15,j 16,j 17,j 18,j 19,j 20,j 21,j 22,j 23,j 24,j 25,j 26,j 27,j 28,j 29,j 30,j 31,j 32,j 33,j 34,j 35,j 36,j 37,j 38,j 39,j 40,j 41,j 42]
theorem tiF_0 (A B C:List Int) (i:Nat) (j:Nat→Value):evC (yty.en tabS9) tiF_h (cAt [1,1,0,1,0,0,1,0,0,1,0] (bdy Tryd.f30)) ⟨tiF_a A B C i j,[((wA .u64 16 A),(35,(0,0))),((wA .u64 16 B),(35,(0,0))),((wA .u64 16 []),(35,(0,0))),((wA .u64 16 C),(35,(0,0)))],True,[]⟩=some (.normal,⟨tiF_b A B C i j,[((wA .u64 16 A),(35,(0,0))),((wA .u64 16 B),(35,(0,0))),((wA .u64 16 []),(35,(0,0))),((wA .u64 16 C),(35,(0,0)))],(True∧True),[]⟩):=by kernel_rfl
theorem tiF_r (A B C:List Int) (i:Nat) (j:Nat→Value)   {c0:Prop} {ch0:List (Option Value)}:Runs Tryd.prog (cAt [1,1,0,1,0,0,1,0,0,1,0] (bdy Tryd.f30)) ⟨tiF_a A B C i j,[((wA .u64 16 A),(35,(0,0))),((wA .u64 16 B),(35,(0,0))),((wA .u64 16 []),(35,(0,0))),((wA .u64 16 C),(35,(0,0)))],c0,ch0⟩ (fun e s=>e= .normal∧∃ c ch,s=⟨tiF_b A B C i j,[((wA .u64 16 A),(35,(0,0))),((wA .u64 16 B),(35,(0,0))),((wA .u64 16 []),(35,(0,0))),((wA .u64 16 C),(35,(0,0)))],c,ch⟩):=by
  refine(runs_ev mixed [] (tiF_0 A B C i j) ⟨trivial,trivial⟩).mono ?_
  rintro e s ⟨rfl,rfl⟩
  exact⟨rfl,_,_,rfl⟩
def tiT_h (i:Nat):Hn:=if i=9 then⟨16,[],[],[],[]⟩ else⟨0,[],[],[],[]⟩
def tiT_a (A B C:List Int) (x:Int) (i k:Nat) (j:Nat→Value):List Value:= [j 0,j 1,.pointer (some ⟨0,0,none⟩),.pointer (some ⟨1,0,none⟩),.pointer (some ⟨2,0,none⟩),.pointer (some ⟨3,0,none⟩),.int .i64 (i:Int),.int .u64 x,.int .i64 (k:Int),j 9,j 10,j 11,j 12,j 13,j 14,j 15,j 16,j 17,j 18,j 19,j 20,j 21,j 22,j 23,j 24,j 25,j 26,j 27,j 28,j 29,j 30,j 31,j 32,j 33,j 34,j 35,j 36,j 37,j 38,j 39,j 40,j 41,j 42]
def tiT_b (A B C:List Int) (x:Int) (i k:Nat) (j:Nat→Value):List Value:= [j 0,j 1,.pointer (some ⟨0,0,none⟩),.pointer (some ⟨1,0,none⟩),.pointer (some ⟨2,0,none⟩),.pointer (some ⟨3,0,none⟩),.int .i64 (i:Int),.int .u64 (IntKind.u64.wrap (Int.tdiv (tmV A B C x i k) 65536)),.int .i64 ((k+1:Nat):Int),j 9,j 10,j 11,j 12,.int .i64 (i:Int),.int .i64 (k:Int),.int .i64 ((i+k:Nat):Int),.bool true,.int .i64 (k:Int),.int .i64 ((k+1:Nat):Int),.int .u64 x,.int .i64 (i:Int),.int .i64 (k:Int),.int .i64 ((i+k:Nat):Int),.pointer (some ⟨3,0+Int.toNat ((i+k:Nat):Int)*1,none⟩),.int .u64 (C.getD (i+k) 0),.int .u64 (IntKind.u64.wrap (x+(C.getD (i+k) 0))),.int .i64 (i:Int),.pointer (some ⟨0,0+Int.toNat (i:Int)*1,none⟩),.int .u64 (A.getD i 0),.int .i64 (k:Int),.pointer (some ⟨1,0+Int.toNat (k:Int)*1,none⟩),.int .u64 (B.getD k 0),.int .u64 (IntKind.u64.wrap ((A.getD i 0)*(B.getD k 0))),.int .u64 (tmV A B C x i k),.int .i64 (i:Int),.int .i64 (k:Int),.int .i64 ((i+k:Nat):Int),.int .u64 (tmV A B C x i k),.int .u64 (Int.tmod (tmV A B C x i k) 65536),.pointer (some ⟨3,0+Int.toNat ((i+k:Nat):Int)*1,none⟩),.int .u64 (tmV A B C x i k),.int .u64 (IntKind.u64.wrap (Int.tdiv (tmV A B C x i k) 65536)),j 42]
theorem tiT_0 (A B C:List Int) (x:Int) (i k:Nat) (j:Nat→Value):evC (yty.en tabS9) tiT_h (cAt [1,1,0,1,0,0,1,0,0,1,1,0,0] (bdy Tryd.f30)) ⟨tiT_a A B C x i k j,[((wA .u64 16 A),(35,(0,0))),((wA .u64 16 B),(35,(0,0))),((wA .u64 16 []),(35,(0,0))),((wA .u64 16 C),(35,(0,0)))],True,[some (.int .i64 ((i+k:Nat):Int)),some (.bool true),some (.int .i64 ((i+k:Nat):Int)),some (.int .u64 (C.getD (i+k) 0)),none,some (.int .u64 (A.getD i 0)),some (.int .u64 (B.getD k 0)),none,some (.int .u64 (tmV A B C x i k)),some (.int .i64 ((i+k:Nat):Int)),none,some (.agg (wA .u64 16 (lset 16 C (i+k) (Int.tmod (tmV A B C x i k) 65536)))),none,some (.int .i64 ((k+1:Nat):Int))]⟩=some (.normal,⟨tiT_b A B C x i k j,[((wA .u64 16 A),(35,(0,0))),((wA .u64 16 B),(35,(0,0))),((wA .u64 16 []),(35,(0,0))),((wA .u64 16 (lset 16 C (i+k) (Int.tmod (tmV A B C x i k) 65536))),(35,(0,0)))],(((((((((((((((((((((((((((((((((True∧True)∧True)∧(True∧(IntKind.i64.wrap ((i:Int)+(k:Int)))=((i+k:Nat):Int)))∧(True∧(decide (((i+k:Nat):Int)<16))=true))∧True)∧True)∧True)∧(True∧(IntKind.i64.wrap ((i:Int)+(k:Int)))=((i+k:Nat):Int)))∧(0≤((i+k:Nat):Int)∧((i+k:Nat):Int)<((16:Nat):Int)))∧(((wA .u64 16 C)[(0+Int.toNat ((i+k:Nat):Int)*1)]? =some (.int .u64 (C.getD (i+k) 0)))∧(C.getD (i+k) 0)=(C.getD (i+k) 0)))∧True)∧True)∧(0≤(i:Int)∧(i:Int)<((16:Nat):Int)))∧(((wA .u64 16 A)[(0+Int.toNat (i:Int)*1)]? =some (.int .u64 (A.getD i 0)))∧(A.getD i 0)=(A.getD i 0)))∧True)∧(0≤(k:Int)∧(k:Int)<((16:Nat):Int)))∧(((wA .u64 16 B)[(0+Int.toNat (k:Int)*1)]? =some (.int .u64 (B.getD k 0)))∧(B.getD k 0)=(B.getD k 0)))∧True)∧(True∧(IntKind.u64.wrap ((IntKind.u64.wrap (x+(C.getD (i+k) 0)))+(IntKind.u64.wrap ((A.getD i 0)*(B.getD k 0)))))=(tmV A B C x i k)))∧True)∧True)∧True)∧(True∧(IntKind.i64.wrap ((i:Int)+(k:Int)))=((i+k:Nat):Int)))∧True)∧((65536:Int)≠0))∧(0≤((i+k:Nat):Int)∧((i+k:Nat):Int)<((16:Nat):Int)))∧((0+Int.toNat ((i+k:Nat):Int)*1)<(wA .u64 16 C).size∧(wA .u64 16 C).setIfInBounds (0+Int.toNat ((i+k:Nat):Int)*1) (.int .u64 (Int.tmod (tmV A B C x i k) 65536))=(wA .u64 16 (lset 16 C (i+k) (Int.tmod (tmV A B C x i k) 65536)))))∧True)∧((65536:Int)≠0))∧True)∧True)∧(True∧(IntKind.i64.wrap ((k:Int)+1))=((k+1:Nat):Int)))∧True),[]⟩):=by kernel_rfl
theorem tiT_r (A B C:List Int) (x:Int) (i k:Nat) (j:Nat→Value)  (q0:(True∧(IntKind.i64.wrap ((i:Int)+(k:Int)))=((i+k:Nat):Int))) (q1:(True∧(IntKind.i64.wrap ((i:Int)+(k:Int)))=((i+k:Nat):Int))) (q2:(0≤((i+k:Nat):Int)∧((i+k:Nat):Int)<((16:Nat):Int))) (q3:(((wA .u64 16 C)[(0+Int.toNat ((i+k:Nat):Int)*1)]? =some (.int .u64 (C.getD (i+k) 0)))∧(C.getD (i+k) 0)=(C.getD (i+k) 0))) (q4:(0≤(i:Int)∧(i:Int)<((16:Nat):Int))) (q5:(((wA .u64 16 A)[(0+Int.toNat (i:Int)*1)]? =some (.int .u64 (A.getD i 0)))∧(A.getD i 0)=(A.getD i 0))) (q6:(0≤(k:Int)∧(k:Int)<((16:Nat):Int))) (q7:(((wA .u64 16 B)[(0+Int.toNat (k:Int)*1)]? =some (.int .u64 (B.getD k 0)))∧(B.getD k 0)=(B.getD k 0))) (q8:(True∧(IntKind.u64.wrap ((IntKind.u64.wrap (x+(C.getD (i+k) 0)))+(IntKind.u64.wrap ((A.getD i 0)*(B.getD k 0)))))=(tmV A B C x i k))) (q9:(True∧(IntKind.i64.wrap ((i:Int)+(k:Int)))=((i+k:Nat):Int))) (q10:(0≤((i+k:Nat):Int)∧((i+k:Nat):Int)<((16:Nat):Int))) (q11:((0+Int.toNat ((i+k:Nat):Int)*1)<(wA .u64 16 C).size∧(wA .u64 16 C).setIfInBounds (0+Int.toNat ((i+k:Nat):Int)*1) (.int .u64 (Int.tmod (tmV A B C x i k) 65536))=(wA .u64 16 (lset 16 C (i+k) (Int.tmod (tmV A B C x i k) 65536))))) (q12:(True∧(IntKind.i64.wrap ((k:Int)+1))=((k+1:Nat):Int))) (h0:(decide (((i+k:Nat):Int)<16))=true) {c0:Prop} {ch0:List (Option Value)}:Runs Tryd.prog (cAt [1,1,0,1,0,0,1,0,0,1,1,0,0] (bdy Tryd.f30)) ⟨tiT_a A B C x i k j,[((wA .u64 16 A),(35,(0,0))),((wA .u64 16 B),(35,(0,0))),((wA .u64 16 []),(35,(0,0))),((wA .u64 16 C),(35,(0,0)))],c0,ch0⟩ (fun e s=>e= .normal∧∃ c ch,s=⟨tiT_b A B C x i k j,[((wA .u64 16 A),(35,(0,0))),((wA .u64 16 B),(35,(0,0))),((wA .u64 16 []),(35,(0,0))),((wA .u64 16 (lset 16 C (i+k) (Int.tmod (tmV A B C x i k) 65536))),(35,(0,0)))],c,ch⟩):=by
  refine(runs_ev mixed [some (.int .i64 ((i+k:Nat):Int)),some (.bool true),some (.int .i64 ((i+k:Nat):Int)),some (.int .u64 (C.getD (i+k) 0)),none,some (.int .u64 (A.getD i 0)),some (.int .u64 (B.getD k 0)),none,some (.int .u64 (tmV A B C x i k)),some (.int .i64 ((i+k:Nat):Int)),none,some (.agg (wA .u64 16 (lset 16 C (i+k) (Int.tmod (tmV A B C x i k) 65536)))),none,some (.int .i64 ((k+1:Nat):Int))] (tiT_0 A B C x i k j) ⟨⟨⟨⟨⟨⟨⟨⟨⟨⟨⟨⟨⟨⟨⟨⟨⟨⟨⟨⟨⟨⟨⟨⟨⟨⟨⟨⟨⟨⟨⟨⟨⟨trivial,trivial⟩,trivial⟩,q0⟩,⟨trivial,h0⟩⟩,trivial⟩,trivial⟩,trivial⟩,q1⟩,q2⟩,q3⟩,trivial⟩,trivial⟩,q4⟩,q5⟩,trivial⟩,q6⟩,q7⟩,trivial⟩,q8⟩,trivial⟩,trivial⟩,trivial⟩,q9⟩,trivial⟩,(by decide)⟩,q10⟩,q11⟩,trivial⟩,(by decide)⟩,trivial⟩,trivial⟩,q12⟩,trivial⟩).mono ?_
  rintro e s ⟨rfl,rfl⟩
  exact⟨rfl,_,_,rfl⟩
def tiY_h (i:Nat):Hn:=if i=9 then⟨16,[],[],[],[]⟩ else⟨0,[],[],[],[]⟩
def tiY_a (A B C:List Int) (x:Int) (i k:Nat) (j:Nat→Value):List Value:= [j 0,j 1,.pointer (some ⟨0,0,none⟩),.pointer (some ⟨1,0,none⟩),.pointer (some ⟨2,0,none⟩),.pointer (some ⟨3,0,none⟩),.int .i64 (i:Int),.int .u64 x,.int .i64 (k:Int),j 9,j 10,j 11,j 12,j 13,j 14,j 15,j 16,j 17,j 18,j 19,j 20,j 21,j 22,j 23,j 24,j 25,j 26,j 27,j 28,j 29,j 30,j 31,j 32,j 33,j 34,j 35,j 36,j 37,j 38,j 39,j 40,j 41,j 42]
def tiY_b (A B C:List Int) (x:Int) (i k:Nat) (j:Nat→Value):List Value:= [j 0,j 1,.pointer (some ⟨0,0,none⟩),.pointer (some ⟨1,0,none⟩),.pointer (some ⟨2,0,none⟩),.pointer (some ⟨3,0,none⟩),.int .i64 (i:Int),.int .u64 x,.int .i64 (k:Int),j 9,j 10,j 11,j 12,.int .i64 (i:Int),.int .i64 (k:Int),.int .i64 ((i+k:Nat):Int),.bool false,j 17,j 18,j 19,j 20,j 21,j 22,j 23,j 24,j 25,j 26,j 27,j 28,j 29,j 30,j 31,j 32,j 33,j 34,j 35,j 36,j 37,j 38,j 39,j 40,j 41,j 42]
theorem tiY_0 (A B C:List Int) (x:Int) (i k:Nat) (j:Nat→Value):evC (yty.en tabS9) tiY_h (cAt [1,1,0,1,0,0,1,0,0,1,1,0,0] (bdy Tryd.f30)) ⟨tiY_a A B C x i k j,[((wA .u64 16 A),(35,(0,0))),((wA .u64 16 B),(35,(0,0))),((wA .u64 16 []),(35,(0,0))),((wA .u64 16 C),(35,(0,0)))],True,[some (.int .i64 ((i+k:Nat):Int)),some (.bool false)]⟩=some ((.exit 2),⟨tiY_b A B C x i k j,[((wA .u64 16 A),(35,(0,0))),((wA .u64 16 B),(35,(0,0))),((wA .u64 16 []),(35,(0,0))),((wA .u64 16 C),(35,(0,0)))],((((True∧True)∧True)∧(True∧(IntKind.i64.wrap ((i:Int)+(k:Int)))=((i+k:Nat):Int)))∧(True∧(decide (((i+k:Nat):Int)<16))=false)),[]⟩):=by kernel_rfl
theorem tiY_r (A B C:List Int) (x:Int) (i k:Nat) (j:Nat→Value)  (q0:(True∧(IntKind.i64.wrap ((i:Int)+(k:Int)))=((i+k:Nat):Int))) (h0:(decide (((i+k:Nat):Int)<16))=false) {c0:Prop} {ch0:List (Option Value)}:Runs Tryd.prog (cAt [1,1,0,1,0,0,1,0,0,1,1,0,0] (bdy Tryd.f30)) ⟨tiY_a A B C x i k j,[((wA .u64 16 A),(35,(0,0))),((wA .u64 16 B),(35,(0,0))),((wA .u64 16 []),(35,(0,0))),((wA .u64 16 C),(35,(0,0)))],c0,ch0⟩ (fun e s=>e=(.exit 2)∧∃ c ch,s=⟨tiY_b A B C x i k j,[((wA .u64 16 A),(35,(0,0))),((wA .u64 16 B),(35,(0,0))),((wA .u64 16 []),(35,(0,0))),((wA .u64 16 C),(35,(0,0)))],c,ch⟩):=by
  refine(runs_ev mixed [some (.int .i64 ((i+k:Nat):Int)),some (.bool false)] (tiY_0 A B C x i k j) ⟨⟨⟨⟨trivial,trivial⟩,trivial⟩,q0⟩,⟨trivial,h0⟩⟩).mono ?_
  rintro e s ⟨rfl,rfl⟩
  exact⟨rfl,_,_,rfl⟩
def tiG_h (i:Nat):Hn:=if i=9 then⟨16,[],[],[],[]⟩ else⟨0,[],[],[],[]⟩
def tiG_a (A B C:List Int) (x:Int) (i k:Nat) (j:Nat→Value):List Value:= [j 0,j 1,.pointer (some ⟨0,0,none⟩),.pointer (some ⟨1,0,none⟩),.pointer (some ⟨2,0,none⟩),.pointer (some ⟨3,0,none⟩),.int .i64 (i:Int),.int .u64 x,.int .i64 (k:Int),j 9,j 10,j 11,j 12,j 13,j 14,j 15,j 16,j 17,j 18,j 19,j 20,j 21,j 22,j 23,j 24,j 25,j 26,j 27,j 28,j 29,j 30,j 31,j 32,j 33,j 34,j 35,j 36,j 37,j 38,j 39,j 40,j 41,j 42]
def tiG_b (A B C:List Int) (x:Int) (i k:Nat) (j:Nat→Value):List Value:= [j 0,j 1,.pointer (some ⟨0,0,none⟩),.pointer (some ⟨1,0,none⟩),.pointer (some ⟨2,0,none⟩),.pointer (some ⟨3,0,none⟩),.int .i64 ((i+1:Nat):Int),.int .u64 x,.int .i64 (k:Int),j 9,j 10,.int .i64 (i:Int),.int .i64 ((i+1:Nat):Int),j 13,j 14,j 15,j 16,j 17,j 18,j 19,j 20,j 21,j 22,j 23,j 24,j 25,j 26,j 27,j 28,j 29,j 30,j 31,j 32,j 33,j 34,j 35,j 36,j 37,j 38,j 39,j 40,j 41,j 42]
theorem tiG_0 (A B C:List Int) (x:Int) (i k:Nat) (j:Nat→Value):evC (yty.en tabS9) tiG_h (cAt [1,1,0,1,0,0,1,1] (bdy Tryd.f30)) ⟨tiG_a A B C x i k j,[((wA .u64 16 A),(35,(0,0))),((wA .u64 16 B),(35,(0,0))),((wA .u64 16 []),(35,(0,0))),((wA .u64 16 C),(35,(0,0)))],True,[some (.int .i64 ((i+1:Nat):Int))]⟩=some (.normal,⟨tiG_b A B C x i k j,[((wA .u64 16 A),(35,(0,0))),((wA .u64 16 B),(35,(0,0))),((wA .u64 16 []),(35,(0,0))),((wA .u64 16 C),(35,(0,0)))],(((True∧True)∧(True∧(IntKind.i64.wrap ((i:Int)+1))=((i+1:Nat):Int)))∧True),[]⟩):=by kernel_rfl
theorem tiG_r (A B C:List Int) (x:Int) (i k:Nat) (j:Nat→Value)  (q0:(True∧(IntKind.i64.wrap ((i:Int)+1))=((i+1:Nat):Int)))  {c0:Prop} {ch0:List (Option Value)}:Runs Tryd.prog (cAt [1,1,0,1,0,0,1,1] (bdy Tryd.f30)) ⟨tiG_a A B C x i k j,[((wA .u64 16 A),(35,(0,0))),((wA .u64 16 B),(35,(0,0))),((wA .u64 16 []),(35,(0,0))),((wA .u64 16 C),(35,(0,0)))],c0,ch0⟩ (fun e s=>e= .normal∧∃ c ch,s=⟨tiG_b A B C x i k j,[((wA .u64 16 A),(35,(0,0))),((wA .u64 16 B),(35,(0,0))),((wA .u64 16 []),(35,(0,0))),((wA .u64 16 C),(35,(0,0)))],c,ch⟩):=by
  refine(runs_ev mixed [some (.int .i64 ((i+1:Nat):Int))] (tiG_0 A B C x i k j) ⟨⟨⟨trivial,trivial⟩,q0⟩,trivial⟩).mono ?_
  rintro e s ⟨rfl,rfl⟩
  exact⟨rfl,_,_,rfl⟩
def tiZ_h (i:Nat):Hn:=if i=9 then⟨16,[],[],[],[]⟩ else⟨0,[],[],[],[]⟩
def tiZ_a (A B C:List Int) (j:Nat→Value):List Value:= [j 0,j 1,.pointer (some ⟨0,0,none⟩),.pointer (some ⟨1,0,none⟩),.pointer (some ⟨2,0,none⟩),.pointer (some ⟨3,0,none⟩),j 6,j 7,j 8,j 9,j 10,j 11,j 12,j 13,j 14,j 15,j 16,j 17,j 18,j 19,j 20,j 21,j 22,j 23,j 24,j 25,j 26,j 27,j 28,j 29,j 30,j 31,j 32,j 33,j 34,j 35,j 36,j 37,j 38,j 39,j 40,j 41,j 42]
def tiZ_b (A B C:List Int) (j:Nat→Value):List Value:= [j 0,j 1,.pointer (some ⟨0,0,none⟩),.pointer (some ⟨1,0,none⟩),.pointer (some ⟨2,0,none⟩),.pointer (some ⟨3,0,none⟩),j 6,j 7,j 8,j 9,j 10,j 11,j 12,j 13,j 14,j 15,j 16,j 17,j 18,j 19,j 20,j 21,j 22,j 23,j 24,j 25,j 26,j 27,j 28,j 29,j 30,j 31,j 32,j 33,j 34,j 35,j 36,j 37,j 38,j 39,j 40,j 41,.agg (wA .u64 16 C)]
theorem tiZ_0 (A B C:List Int) (j:Nat→Value):evC (yty.en tabS9) tiZ_h (cAt [1,1,1] (bdy Tryd.f30)) ⟨tiZ_a A B C j,[((wA .u64 16 A),(35,(0,0))),((wA .u64 16 B),(35,(0,0))),((wA .u64 16 []),(35,(0,0))),((wA .u64 16 C),(35,(0,0)))],True,[]⟩=some (.ret,⟨tiZ_b A B C j,[((wA .u64 16 A),(35,(0,0))),((wA .u64 16 B),(35,(0,0))),((wA .u64 16 C),(35,(0,0))),((wA .u64 16 C),(35,(0,0)))],((True∧True)∧((wA .u64 16 C).all (fun v=>v.oneCell')=true)),[]⟩):=by kernel_rfl
theorem tiZ_r (A B C:List Int) (j:Nat→Value)  (q0:((wA .u64 16 C).all (fun v=>v.oneCell')=true))  {c0:Prop} {ch0:List (Option Value)}:Runs Tryd.prog (cAt [1,1,1] (bdy Tryd.f30)) ⟨tiZ_a A B C j,[((wA .u64 16 A),(35,(0,0))),((wA .u64 16 B),(35,(0,0))),((wA .u64 16 []),(35,(0,0))),((wA .u64 16 C),(35,(0,0)))],c0,ch0⟩ (fun e s=>e= .ret∧∃ c ch,s=⟨tiZ_b A B C j,[((wA .u64 16 A),(35,(0,0))),((wA .u64 16 B),(35,(0,0))),((wA .u64 16 C),(35,(0,0))),((wA .u64 16 C),(35,(0,0)))],c,ch⟩):=by
  refine(runs_ev mixed [] (tiZ_0 A B C j) ⟨⟨trivial,trivial⟩,q0⟩).mono ?_
  rintro e s ⟨rfl,rfl⟩
  exact⟨rfl,_,_,rfl⟩
end Go.Proofs.YtpmkojinhebihaaDoor

set_option linter.unusedSimpArgs false
set_option linter.unusedVariables false
/-! Digits of sixteen bits: a product. -/
namespace Go.Proofs.YtpmkojinhebihaaDoor
open Go.RowKit Go.Ev
def tmK (A B:List Int) (i:Nat) (C:List Int):Nat→List Int×Int
  |0=>(C,0)
  |k+1=>(lset 16 (tmK A B i C k).1 (i+k) (Int.tmod (tmV A B (tmK A B i C k).1 (tmK A B i C k).2 i k) 65536),IntKind.u64.wrap (Int.tdiv (tmV A B (tmK A B i C k).1 (tmK A B i C k).2 i k) 65536))
def tmO (A B:List Int):Nat→List Int
  |0=> []
  |i+1=>(tmK A B i (tmO A B i) (16 - i)).1
def tiM (A B C:List Int):List Mb:= [(wA .u64 16 A,(35,(0,0))),(wA .u64 16 B,(35,(0,0))),(wA .u64 16 [],(35,(0,0))),(wA .u64 16 C,(35,(0,0)))]
theorem lput {N p:Nat} {L:List Int} {x:Int} {q:Nat} (h:p<N) (e:q=p):q<(wA .u64 N L).size∧(wA .u64 N L).setIfInBounds q (.int .u64 x)=wA .u64 N (lset N L p x):=by
  subst e
  exact⟨by rw[wA_size];exact h,wA_put h⟩
theorem ti_in (A B C:List Int) (i:Nat) (hi:i<16) (j0:Nat→Value) {c0:Prop} {ch0:List (Option Value)}:Runs Tryd.prog (.loop (cAt [1,1,0,1,0,0,1,0,0,1,1,0,0] (bdy Tryd.f30))) ⟨tiT_a A B [] 0 i 0 j0,tiM A B C,c0,ch0⟩ (fun e s=>e= .exit 2∧∃ x k j c ch,s=⟨tiT_a A B [] x i k j,tiM A B (tmK A B i C (16 - i)).1,c,ch⟩):=by
  refine runs_loop (fun M s=>∃ k j c ch,k≤16 - i∧M=16 - i - k∧s=⟨tiT_a A B [] (tmK A B i C k).2 i k j,tiM A B (tmK A B i C k).1,c,ch⟩) (16 - i) ⟨0,j0,c0,ch0,by omega,rfl,rfl⟩ ?_
  rintro M s ⟨k,j,c,ch,hk,rfl,rfl⟩
  by_cases h:k<16 - i
  · refine (tiT_r A B (tmK A B i C k).1 (tmK A B i C k).2 i k j ⟨trivial, by rw [wi (by omega) (by omega)]; omega⟩ ⟨trivial, by rw [wi (by omega) (by omega)]; omega⟩ ⟨by omega, by omega⟩ ⟨wA_get (by omega) (by omega), rfl⟩ ⟨by omega, by omega⟩ ⟨wA_get (by omega) (by omega), rfl⟩ ⟨by omega, by omega⟩ ⟨wA_get (by omega) (by omega), rfl⟩ ⟨trivial, rfl⟩ ⟨trivial, by rw [wi (by omega) (by omega)]; omega⟩ ⟨by omega, by omega⟩ (lput (by omega) (by omega)) ⟨trivial, by rw [wi (by omega) (by omega)]; omega⟩ (decide_eq_true (by omega))).mono ?_
    rintro e s ⟨rfl,c,ch,hs⟩
    refine .inl ⟨rfl,16 - i - (k+1),by omega,k+1,fun q=>s.tm.getD q undef,c,ch,by omega,rfl,?_⟩
    subst hs
    rfl
  · have : k = 16 - i := by omega
    subst this
    refine(tiY_r A B (tmK A B i C (16 - i)).1 (tmK A B i C (16 - i)).2 i (16 - i) j ⟨trivial,by rw[wi (by omega) (by omega)];omega⟩ (decide_eq_false (by omega))).mono ?_
    rintro e s ⟨rfl,c,ch,hs⟩
    refine .inr ⟨by simp,rfl,(tmK A B i C (16 - i)).2,16 - i,fun q=>s.tm.getD q undef,c,ch,?_⟩
    subst hs
    rfl
theorem ti_bshape:cAt [1,1,0,1,0,0] (bdy Tryd.f30)= .seq (cAt [1,1,0,1,0,0,0] (bdy Tryd.f30)) (.seq (.block 1 (.seq (cAt [1,1,0,1,0,0,1,0,0,0] (bdy Tryd.f30)) (.seq (cAt [1,1,0,1,0,0,1,0,0,1,0] (bdy Tryd.f30)) (.block 2 (.loop (cAt [1,1,0,1,0,0,1,0,0,1,1,0,0] (bdy Tryd.f30))))))) (cAt [1,1,0,1,0,0,1,1] (bdy Tryd.f30))):=by kernel_rfl
theorem ti_shape:(bdy Tryd.f30)= .seq (cAt [0] (bdy Tryd.f30)) (.seq (cAt [1,0] (bdy Tryd.f30)) (.seq (.seq (cAt [1,1,0,0] (bdy Tryd.f30)) (.block 0 (.loop (cAt [1,1,0,1,0,0] (bdy Tryd.f30))))) (cAt [1,1,1] (bdy Tryd.f30)))):=by kernel_rfl
theorem ti_out (A B : List Int) (j0 : Nat → Value) {c0 : Prop} {ch0 : List (Option Value)} : Runs Tryd.prog (.loop (cAt [1, 1, 0, 1, 0, 0] (bdy Tryd.f30))) ⟨tiD_a A B [] 0 j0, tiM A B [], c0, ch0⟩ (fun e s => e = .exit 0 ∧ ∃ j c ch, s = ⟨tiD_a A B [] 16 j, tiM A B (tmO A B 16), c, ch⟩) := by
  refine runs_loop (fun M s=>∃ i j c ch,i≤16∧M=16 - i∧s=⟨tiD_a A B [] i j,tiM A B (tmO A B i),c,ch⟩) 16 ⟨0,j0,c0,ch0,by omega,rfl,rfl⟩ ?_
  rintro M s ⟨i,j,c,ch,hi,rfl,rfl⟩
  rw[ti_bshape]
  by_cases h:i<16
  · refine runs_seq (K1 := fun e s => e = .normal ∧ ∃ j c ch, s = ⟨tiD_a A B [] i j, tiM A B (tmO A B i), c, ch⟩) ?_ (fun s hs => ?_) (fun e s hne hs => absurd hs.1 hne)
    · refine (tiD_r A B (tmO A B i) i j (decide_eq_true (by omega))).mono ?_
      rintro e s ⟨rfl,c,ch,hs⟩
      refine⟨rfl,fun q=>s.tm.getD q undef,c,ch,?_⟩
      subst hs
      rfl
    · obtain ⟨_, j, c, ch, rfl⟩ := hs
      refine runs_seq (K1:=fun e s=>e= .normal∧∃ x k j c ch,s=⟨tiT_a A B [] x i k j,tiM A B (tmO A B (i+1)),c,ch⟩) ?_ (fun s hs=> ?_) (fun e s hne hs=>absurd hs.1 hne)
      · refine runs_block (K1 := fun e s => e = .normal ∧ ∃ x k j c ch, s = ⟨tiT_a A B [] x i k j, tiM A B (tmO A B (i + 1)), c, ch⟩) ?_ (fun e s hs => .inr (.inl ⟨hs.1, rfl, hs.2⟩))
        have hs0:tiD_a A B [] i j=tiE_a A B (tmO A B i) i (fun q=>(tiD_a A B [] i j).getD q undef):=rfl
        rw[hs0]
        refine runs_seq (tiE_r A B (tmO A B i) i _) (fun s hs=> ?_) (fun e s hne hs=>absurd hs.1 hne)
        obtain⟨_,c,ch,hs⟩:=hs
        have hs':s=⟨tiF_a A B (tmO A B i) i (fun q=>s.tm.getD q undef),tiM A B (tmO A B i),c,ch⟩:=by subst hs;rfl
        rw[hs']
        refine runs_seq (tiF_r A B (tmO A B i) i _) (fun s hs=> ?_) (fun e s hne hs=>absurd hs.1 hne)
        obtain⟨_,c,ch,hs⟩:=hs
        have hs':s=⟨tiT_a A B [] 0 i 0 (fun q=>s.tm.getD q undef),tiM A B (tmO A B i),c,ch⟩:=by subst hs;rfl
        rw[hs']
        refine runs_block (ti_in A B (tmO A B i) i h _) ?_
        rintro e s ⟨rfl,hx⟩
        exact .inl ⟨rfl,rfl,hx⟩
      · obtain ⟨_, x, k, j, c, ch, rfl⟩ := hs
        have hs0:tiT_a A B [] x i k j=tiG_a A B (tmO A B (i+1)) x i k (fun q=>(tiT_a A B [] x i k j).getD q undef):=rfl
        rw[hs0]
        refine(tiG_r A B (tmO A B (i+1)) x i k _ ⟨trivial,by rw[wi (by omega) (by omega)];omega⟩).mono ?_
        rintro e s ⟨rfl,c,ch,hs⟩
        refine .inl ⟨rfl,16 - (i+1),by omega,i+1,fun q=>s.tm.getD q undef,c,ch,by omega,rfl,?_⟩
        subst hs
        rfl
  · have : i = 16 := by omega
    subst this
    refine runs_seq (K1:=fun e s=>e= .exit 0∧∃ j c ch,s=⟨tiD_a A B [] 16 j,tiM A B (tmO A B 16),c,ch⟩) ?_ (fun s hs=>by cases hs.1) (fun e s hne hs=> .inr ⟨hne,hs⟩)
    refine(tiX_r A B (tmO A B 16) 16 j (decide_eq_false (by omega))).mono ?_
    rintro e s ⟨rfl,c,ch,hs⟩
    refine⟨rfl,fun q=>s.tm.getD q undef,c,ch,?_⟩
    subst hs
    rfl
theorem Times6_c (A B:List Int):Pure Tryd.prog 30 #[.agg (wA .u64 16 A),.agg (wA .u64 16 B)] (.agg (wA .u64 16 (tmO A B 16))):=by
  refine pure_runs (E:=yty.en tabS9) Tryd.func30 (c:=(bdy Tryd.f30)) (by kernel_rfl) (args:= [.agg (wA .u64 16 A),.agg (wA .u64 16 B)]) (by kernel_rfl) (K:=fun e s=>e= .ret∧resS (yty.en tabS9) s Tryd.f30.results.toList=some [.agg (wA .u64 16 (tmO A B 16))]) ?_ (fun e s h=>⟨h.1,_,h.2,rfl⟩)
  rw[ti_shape]
  refine runs_seq (tiA_r A B) (fun s h=> ?_) (fun e s hne h=>absurd h.1 hne)
  obtain⟨_,c,ch,rfl⟩:=h
  refine runs_seq (tiB_r A B) (fun s h=> ?_) (fun e s hne h=>absurd h.1 hne)
  obtain⟨_,c,ch,rfl⟩:=h
  refine runs_seq (K1:=fun e s=>e= .normal∧∃ j c ch,s=⟨tiD_a A B [] 16 j,tiM A B (tmO A B 16),c,ch⟩) ?_ (fun s h=> ?_) (fun e s hne h=>absurd h.1 hne)
  · refine runs_seq (tiC_r A B) (fun s h => ?_) (fun e s hne h => absurd h.1 hne)
    obtain⟨_,c,ch,hs⟩:=h
    have hs':s=⟨tiD_a A B [] 0 (fun q=>s.tm.getD q undef),tiM A B [],c,ch⟩:=by subst hs;rfl
    rw[hs']
    refine runs_block (ti_out A B _) ?_
    rintro e s ⟨rfl,h⟩
    exact .inl ⟨rfl,rfl,h⟩
  obtain⟨_,j,c,ch,rfl⟩:=h
  generalize tmO A B 16=C
  have hs0:tiD_a A B [] 16 j=tiZ_a A B C (fun q=>(tiD_a A B [] 16 j).getD q undef):=rfl
  rw[hs0]
  refine(tiZ_r A B C _ (wA_one _ _ _)).mono ?_
  rintro e s ⟨rfl,c,ch,hs⟩
  subst hs
  exact⟨rfl,by kernel_rfl⟩
end Go.Proofs.YtpmkojinhebihaaDoor

set_option linter.unusedSimpArgs false
set_option linter.unusedVariables false
/-! Powers. -/
namespace Go.Proofs.YtpmkojinhebihaaDoor
open Go.RowKit Go.Ev
def of6_h (i:Nat):Hn:=⟨0,[],[],[],[]⟩
theorem of6_0 (u w:Int):evF (yty.en tab0) of6_h Tryd.f29 [.int .u64 u,.int .i64 w] []=some (.agg (wA .u64 16 [(Int.tmod u 65536),(Int.tmod (u / 2 ^ (16)) 65536),(Int.tmod (u / 2 ^ (32)) 65536),(u / 2 ^ (48)),(IntKind.u64.wrap w)]),((((((((((((((True∧True)∧((65536:Int)≠0))∧True)∧((0:Int)≤16))∧((65536:Int)≠0))∧True)∧((0:Int)≤32))∧((65536:Int)≠0))∧True)∧((0:Int)≤48))∧True)∧True)∧True)∧((wA .u64 16 [(Int.tmod u 65536),(Int.tmod (u / 2 ^ (16)) 65536),(Int.tmod (u / 2 ^ (32)) 65536),(u / 2 ^ (48)),(IntKind.u64.wrap w)]).all (fun v=>v.oneCell')=true))):=by kernel_rfl
def of6_F (u w:Int):Value:= .agg (wA .u64 16 [(Int.tmod u 65536),(Int.tmod (u / 2 ^ (16)) 65536),(Int.tmod (u / 2 ^ (32)) 65536),(u / 2 ^ (48)),(IntKind.u64.wrap w)])
set_option maxHeartbeats 4000000 in
theorem of6_p (u w:Int):Pure Tryd.prog 29 #[.int .u64 u,.int .i64 w] (of6_F u w):=by
  unfold of6_F
  exact pure_of mixed Tryd.func29 _ (of6_0 u w) rfl ⟨⟨⟨⟨⟨⟨⟨⟨⟨⟨⟨⟨⟨⟨trivial,trivial⟩,(by decide)⟩,trivial⟩,(by decide)⟩,(by decide)⟩,trivial⟩,(by decide)⟩,(by decide)⟩,trivial⟩,(by decide)⟩,trivial⟩,trivial⟩,trivial⟩,(wA_one _ _ _)⟩
def ofL (c w:Int):List Int:= [Int.tmod c 65536,Int.tmod (c / 2 ^ 16) 65536,Int.tmod (c / 2 ^ 32) 65536,c / 2 ^ 48,IntKind.u64.wrap w]
theorem Of6_c (u w:Int):Pure Tryd.prog 29 #[.int .u64 u,.int .i64 w] (.agg (wA .u64 16 (ofL u w))):=of6_p u w
def pOf6:Entry Tryd.prog:=ent2N Tryd.func29 (by kernel_rfl) (by kernel_rfl) (fun u w=> .agg (wA .u64 16 (ofL u w))) (k:= .u64) (k':= .i64) (fun u w=>Of6_c u w)
theorem dw (L:List Int):wA .u64 16 L=wA .u64 16 (dL (wA .u64 16 L)):=by kernel_rfl
def pTi6 : Entry Tryd.prog where
  f:=30
  g:=fun _ xs=>match xs with| [.agg a,.agg b]=>some (.agg (wA .u64 16 (tmO (dL a) (dL b) 16)),(a=wA .u64 16 (dL a)∧b=wA .u64 16 (dL b)))|_=>none
  ok := fun _ xs u c e hc w β _ _ => by
    split at e
    · rename_i a b
      simp only[Option.some.injEq,Prod.mk.injEq] at e
      obtain⟨rfl,rfl⟩:=e
      have:=Times6_c (dL a) (dL b) w
      rw[← hc.1,← hc.2] at this
      exact this
    · cases e
  call:=call_of Tryd.func30 (by kernel_rfl) (by kernel_rfl)
def tabS10:List (Entry Tryd.prog):=pOf6 :: pTi6 :: tabS9
def dT (A B:List Int):List Int:=tmO (dL (wA .u64 16 A)) (dL (wA .u64 16 B)) 16
def pw2_h (i:Nat):Hn:=⟨0,[],[],[],[]⟩
theorem pw2_0 (u w:Int):evF (yty.en tabS10) pw2_h Tryd.f16 [.int .u64 u,.int .i64 w,.int .i64 2] []=some (.agg (wA .u64 16 (tmO (dL (wA .u64 16 (ofL u w))) (dL (wA .u64 16 (ofL u w))) 16)),((((((((((((((((((((((True∧True)∧True)∧(IntKind.u64=IntKind.u64∧IntKind.i64=IntKind.i64))∧((wA .u64 16 (ofL u w)).all (fun v=>v.oneCell')=true))∧True)∧((wA .u64 16 (ofL u w)).all (fun v=>v.oneCell')=true))∧True)∧True)∧True)∧True)∧True)∧True)∧((wA .u64 16 (ofL u w))=wA .u64 16 (dL (wA .u64 16 (ofL u w)))∧(wA .u64 16 (ofL u w))=wA .u64 16 (dL (wA .u64 16 (ofL u w)))))∧((wA .u64 16 (tmO (dL (wA .u64 16 (ofL u w))) (dL (wA .u64 16 (ofL u w))) 16)).all (fun v=>v.oneCell')=true))∧True)∧True)∧True)∧True)∧True)∧True)∧True)∧((wA .u64 16 (tmO (dL (wA .u64 16 (ofL u w))) (dL (wA .u64 16 (ofL u w))) 16)).all (fun v=>v.oneCell')=true))):=by kernel_rfl
def pw2_F (u w:Int):Value:= .agg (wA .u64 16 (tmO (dL (wA .u64 16 (ofL u w))) (dL (wA .u64 16 (ofL u w))) 16))
set_option maxHeartbeats 4000000 in
theorem pw2_p (u w:Int):Pure Tryd.prog 16 #[.int .u64 u,.int .i64 w,.int .i64 2] (pw2_F u w):=by
  unfold pw2_F
  exact pure_of mixed Tryd.func16 _ (pw2_0 u w) rfl ⟨⟨⟨⟨⟨⟨⟨⟨⟨⟨⟨⟨⟨⟨⟨⟨⟨⟨⟨⟨⟨⟨trivial,trivial⟩,trivial⟩,⟨rfl,rfl⟩⟩,(wA_one _ _ _)⟩,trivial⟩,(wA_one _ _ _)⟩,trivial⟩,trivial⟩,trivial⟩,trivial⟩,trivial⟩,trivial⟩,⟨dw _,dw _⟩⟩,(wA_one _ _ _)⟩,trivial⟩,trivial⟩,trivial⟩,trivial⟩,trivial⟩,trivial⟩,trivial⟩,(wA_one _ _ _)⟩
def pw3_h (i:Nat):Hn:=⟨0,[],[],[],[]⟩
theorem pw3_0 (u w:Int):evF (yty.en tabS10) pw3_h Tryd.f16 [.int .u64 u,.int .i64 w,.int .i64 3] []=some (.agg (wA .u64 16 (tmO (dL (wA .u64 16 (tmO (dL (wA .u64 16 (ofL u w))) (dL (wA .u64 16 (ofL u w))) 16))) (dL (wA .u64 16 (ofL u w))) 16)),((((((((((((((((((((((((((((((((True∧True)∧True)∧(IntKind.u64=IntKind.u64∧IntKind.i64=IntKind.i64))∧((wA .u64 16 (ofL u w)).all (fun v=>v.oneCell')=true))∧True)∧((wA .u64 16 (ofL u w)).all (fun v=>v.oneCell')=true))∧True)∧True)∧True)∧True)∧True)∧True)∧((wA .u64 16 (ofL u w))=wA .u64 16 (dL (wA .u64 16 (ofL u w)))∧(wA .u64 16 (ofL u w))=wA .u64 16 (dL (wA .u64 16 (ofL u w)))))∧((wA .u64 16 (tmO (dL (wA .u64 16 (ofL u w))) (dL (wA .u64 16 (ofL u w))) 16)).all (fun v=>v.oneCell')=true))∧True)∧True)∧True)∧True)∧True)∧True)∧True)∧True)∧((wA .u64 16 (tmO (dL (wA .u64 16 (ofL u w))) (dL (wA .u64 16 (ofL u w))) 16))=wA .u64 16 (dL (wA .u64 16 (tmO (dL (wA .u64 16 (ofL u w))) (dL (wA .u64 16 (ofL u w))) 16)))∧(wA .u64 16 (ofL u w))=wA .u64 16 (dL (wA .u64 16 (ofL u w)))))∧((wA .u64 16 (tmO (dL (wA .u64 16 (tmO (dL (wA .u64 16 (ofL u w))) (dL (wA .u64 16 (ofL u w))) 16))) (dL (wA .u64 16 (ofL u w))) 16)).all (fun v=>v.oneCell')=true))∧True)∧True)∧True)∧True)∧True)∧True)∧True)∧((wA .u64 16 (tmO (dL (wA .u64 16 (tmO (dL (wA .u64 16 (ofL u w))) (dL (wA .u64 16 (ofL u w))) 16))) (dL (wA .u64 16 (ofL u w))) 16)).all (fun v=>v.oneCell')=true))):=by kernel_rfl
def pw3_F (u w:Int):Value:= .agg (wA .u64 16 (tmO (dL (wA .u64 16 (tmO (dL (wA .u64 16 (ofL u w))) (dL (wA .u64 16 (ofL u w))) 16))) (dL (wA .u64 16 (ofL u w))) 16))
set_option maxHeartbeats 4000000 in
theorem pw3_p (u w:Int):Pure Tryd.prog 16 #[.int .u64 u,.int .i64 w,.int .i64 3] (pw3_F u w):=by
  unfold pw3_F
  exact pure_of mixed Tryd.func16 _ (pw3_0 u w) rfl ⟨⟨⟨⟨⟨⟨⟨⟨⟨⟨⟨⟨⟨⟨⟨⟨⟨⟨⟨⟨⟨⟨⟨⟨⟨⟨⟨⟨⟨⟨⟨⟨trivial,trivial⟩,trivial⟩,⟨rfl,rfl⟩⟩,(wA_one _ _ _)⟩,trivial⟩,(wA_one _ _ _)⟩,trivial⟩,trivial⟩,trivial⟩,trivial⟩,trivial⟩,trivial⟩,⟨dw _,dw _⟩⟩,(wA_one _ _ _)⟩,trivial⟩,trivial⟩,trivial⟩,trivial⟩,trivial⟩,trivial⟩,trivial⟩,trivial⟩,⟨dw _,dw _⟩⟩,(wA_one _ _ _)⟩,trivial⟩,trivial⟩,trivial⟩,trivial⟩,trivial⟩,trivial⟩,trivial⟩,(wA_one _ _ _)⟩
def pv2_h (i:Nat):Hn:=⟨0,[],[],[],[]⟩
def pv2_a (u w:Int):List Value:= [.int .u64 u,.int .i64 w,.int .i64 2,undef,undef,undef,undef,undef,undef,undef,undef,undef,undef,undef,undef,undef,undef,undef,undef,undef,undef,undef,undef,undef,undef,undef,undef,undef,undef,undef,undef,undef,undef,undef,undef,undef,undef,undef,undef]
def pv2_b (u w:Int):List Value:= [.int .u64 u,.int .i64 w,.int .i64 2,undef,undef,undef,.pointer (some ⟨0,0,none⟩),.pointer (some ⟨1,0,none⟩),.int .i64 0,.pointer (some ⟨2,0,none⟩),.int .i64 2,.int .u64 u,.int .i64 w,.agg (wA .u64 16 (ofL u w)),.int .i64 0,.bool true,undef,undef,.int .i64 0,.pointer (some ⟨1,0,none⟩),.int .u64 ((ofL u w).getD 0 0),.int .u64 (IntKind.u64.wrap (((ofL u w).getD 0 0)+1)),.pointer (some ⟨1,0,none⟩),.int .i64 0,.pointer (some ⟨1,0,none⟩),.int .u64 ((lset 16 (ofL u w) 0 (IntKind.u64.wrap (((ofL u w).getD 0 0)+1))).getD 0 0),.bool true,undef,undef,.agg (wA .u64 16 (lset 16 (ofL u w) 0 (IntKind.u64.wrap (((ofL u w).getD 0 0)+1)))),.int .i64 2,.int .i64 2,.bool false,.int .i64 1,.int .i64 2,.agg (wA .u64 16 (lset 16 (ofL u w) 0 (IntKind.u64.wrap (((ofL u w).getD 0 0)+1)))),.agg (wA .u64 16 (lset 16 (ofL u w) 0 (IntKind.u64.wrap (((ofL u w).getD 0 0)+1)))),.agg (wA .u64 16 (tmO (dL (wA .u64 16 (lset 16 (ofL u w) 0 (IntKind.u64.wrap (((ofL u w).getD 0 0)+1))))) (dL (wA .u64 16 (lset 16 (ofL u w) 0 (IntKind.u64.wrap (((ofL u w).getD 0 0)+1))))) 16)),.agg (wA .u64 16 (tmO (dL (wA .u64 16 (lset 16 (ofL u w) 0 (IntKind.u64.wrap (((ofL u w).getD 0 0)+1))))) (dL (wA .u64 16 (lset 16 (ofL u w) 0 (IntKind.u64.wrap (((ofL u w).getD 0 0)+1))))) 16))]
theorem pv2_0 (u w:Int):evC (yty.en tabS10) pv2_h (cAt [] (bdy Tryd.f17)) ⟨pv2_a u w,[],True,[none,none,none,some (.agg (wA .u64 16 (lset 16 (ofL u w) 0 (IntKind.u64.wrap (((ofL u w).getD 0 0)+1))))),none,some (.bool true)]⟩=some (.ret,⟨pv2_b u w,[((wA .u64 16 (tmO (dL (wA .u64 16 (lset 16 (ofL u w) 0 (IntKind.u64.wrap (((ofL u w).getD 0 0)+1))))) (dL (wA .u64 16 (lset 16 (ofL u w) 0 (IntKind.u64.wrap (((ofL u w).getD 0 0)+1))))) 16)),(35,(0,0))),((wA .u64 16 (lset 16 (ofL u w) 0 (IntKind.u64.wrap (((ofL u w).getD 0 0)+1)))),(35,(0,0))),((wA .u64 16 (tmO (dL (wA .u64 16 (lset 16 (ofL u w) 0 (IntKind.u64.wrap (((ofL u w).getD 0 0)+1))))) (dL (wA .u64 16 (lset 16 (ofL u w) 0 (IntKind.u64.wrap (((ofL u w).getD 0 0)+1))))) 16)),(35,(0,0)))],(((((((((((((((((((((((((((((((((((True∧True)∧True)∧(IntKind.u64=IntKind.u64∧IntKind.i64=IntKind.i64))∧((wA .u64 16 (ofL u w)).all (fun v=>v.oneCell')=true))∧True)∧True)∧True)∧True)∧((0:Int)≤0∧(0:Int)<((16:Nat):Int)))∧True)∧True)∧((0:Int)≤0∧(0:Int)<((16:Nat):Int)))∧(0<(wA .u64 16 (ofL u w)).size∧(wA .u64 16 (ofL u w)).setIfInBounds (0) (.int .u64 (IntKind.u64.wrap (((ofL u w).getD 0 0)+1)))=(wA .u64 16 (lset 16 (ofL u w) 0 (IntKind.u64.wrap (((ofL u w).getD 0 0)+1))))))∧True)∧((0:Int)≤0∧(0:Int)<((16:Nat):Int)))∧True)∧(True∧(decide (((lset 16 (ofL u w) 0 (IntKind.u64.wrap (((ofL u w).getD 0 0)+1))).getD 0 0)<65536))=true))∧True)∧((wA .u64 16 (lset 16 (ofL u w) 0 (IntKind.u64.wrap (((ofL u w).getD 0 0)+1)))).all (fun v=>v.oneCell')=true))∧True)∧True)∧True)∧True)∧True)∧True)∧((wA .u64 16 (lset 16 (ofL u w) 0 (IntKind.u64.wrap (((ofL u w).getD 0 0)+1))))=wA .u64 16 (dL (wA .u64 16 (lset 16 (ofL u w) 0 (IntKind.u64.wrap (((ofL u w).getD 0 0)+1)))))∧(wA .u64 16 (lset 16 (ofL u w) 0 (IntKind.u64.wrap (((ofL u w).getD 0 0)+1))))=wA .u64 16 (dL (wA .u64 16 (lset 16 (ofL u w) 0 (IntKind.u64.wrap (((ofL u w).getD 0 0)+1)))))))∧((wA .u64 16 (tmO (dL (wA .u64 16 (lset 16 (ofL u w) 0 (IntKind.u64.wrap (((ofL u w).getD 0 0)+1))))) (dL (wA .u64 16 (lset 16 (ofL u w) 0 (IntKind.u64.wrap (((ofL u w).getD 0 0)+1))))) 16)).all (fun v=>v.oneCell')=true))∧True)∧True)∧True)∧True)∧True)∧True)∧True)∧((wA .u64 16 (tmO (dL (wA .u64 16 (lset 16 (ofL u w) 0 (IntKind.u64.wrap (((ofL u w).getD 0 0)+1))))) (dL (wA .u64 16 (lset 16 (ofL u w) 0 (IntKind.u64.wrap (((ofL u w).getD 0 0)+1))))) 16)).all (fun v=>v.oneCell')=true)),[]⟩):=by kernel_rfl
theorem pv2_r (u w:Int)   (q0:((wA .u64 16 (ofL u w)).all (fun v=>v.oneCell')=true)) (q1:(0<(wA .u64 16 (ofL u w)).size∧(wA .u64 16 (ofL u w)).setIfInBounds (0) (.int .u64 (IntKind.u64.wrap (((ofL u w).getD 0 0)+1)))=(wA .u64 16 (lset 16 (ofL u w) 0 (IntKind.u64.wrap (((ofL u w).getD 0 0)+1)))))) (q2:((wA .u64 16 (lset 16 (ofL u w) 0 (IntKind.u64.wrap (((ofL u w).getD 0 0)+1)))).all (fun v=>v.oneCell')=true)) (q3:((wA .u64 16 (tmO (dL (wA .u64 16 (lset 16 (ofL u w) 0 (IntKind.u64.wrap (((ofL u w).getD 0 0)+1))))) (dL (wA .u64 16 (lset 16 (ofL u w) 0 (IntKind.u64.wrap (((ofL u w).getD 0 0)+1))))) 16)).all (fun v=>v.oneCell')=true)) (q4:((wA .u64 16 (tmO (dL (wA .u64 16 (lset 16 (ofL u w) 0 (IntKind.u64.wrap (((ofL u w).getD 0 0)+1))))) (dL (wA .u64 16 (lset 16 (ofL u w) 0 (IntKind.u64.wrap (((ofL u w).getD 0 0)+1))))) 16)).all (fun v=>v.oneCell')=true)) (h1:(decide (((lset 16 (ofL u w) 0 (IntKind.u64.wrap (((ofL u w).getD 0 0)+1))).getD 0 0)<65536))=true) {c0:Prop} {ch0:List (Option Value)}:Runs Tryd.prog (cAt [] (bdy Tryd.f17)) ⟨pv2_a u w,[],c0,ch0⟩ (fun e s=>e= .ret∧∃ c ch,s=⟨pv2_b u w,[((wA .u64 16 (tmO (dL (wA .u64 16 (lset 16 (ofL u w) 0 (IntKind.u64.wrap (((ofL u w).getD 0 0)+1))))) (dL (wA .u64 16 (lset 16 (ofL u w) 0 (IntKind.u64.wrap (((ofL u w).getD 0 0)+1))))) 16)),(35,(0,0))),((wA .u64 16 (lset 16 (ofL u w) 0 (IntKind.u64.wrap (((ofL u w).getD 0 0)+1)))),(35,(0,0))),((wA .u64 16 (tmO (dL (wA .u64 16 (lset 16 (ofL u w) 0 (IntKind.u64.wrap (((ofL u w).getD 0 0)+1))))) (dL (wA .u64 16 (lset 16 (ofL u w) 0 (IntKind.u64.wrap (((ofL u w).getD 0 0)+1))))) 16)),(35,(0,0)))],c,ch⟩):=by
  refine(runs_ev mixed [none,none,none,some (.agg (wA .u64 16 (lset 16 (ofL u w) 0 (IntKind.u64.wrap (((ofL u w).getD 0 0)+1))))),none,some (.bool true)] (pv2_0 u w ) ⟨⟨⟨⟨⟨⟨⟨⟨⟨⟨⟨⟨⟨⟨⟨⟨⟨⟨⟨⟨⟨⟨⟨⟨⟨⟨⟨⟨⟨⟨⟨⟨⟨⟨⟨trivial,trivial⟩,trivial⟩,⟨rfl,rfl⟩⟩,q0⟩,trivial⟩,trivial⟩,trivial⟩,trivial⟩,⟨by decide,by decide⟩⟩,trivial⟩,trivial⟩,⟨by decide,by decide⟩⟩,q1⟩,trivial⟩,⟨by decide,by decide⟩⟩,trivial⟩,⟨trivial,h1⟩⟩,trivial⟩,q2⟩,trivial⟩,trivial⟩,trivial⟩,trivial⟩,trivial⟩,trivial⟩,⟨dw _,dw _⟩⟩,q3⟩,trivial⟩,trivial⟩,trivial⟩,trivial⟩,trivial⟩,trivial⟩,trivial⟩,q4⟩).mono ?_
  rintro e s ⟨rfl,rfl⟩
  exact⟨rfl,_,_,rfl⟩
def pv3_h (i:Nat):Hn:=⟨0,[],[],[],[]⟩
def pv3_a (u w:Int):List Value:= [.int .u64 u,.int .i64 w,.int .i64 3,undef,undef,undef,undef,undef,undef,undef,undef,undef,undef,undef,undef,undef,undef,undef,undef,undef,undef,undef,undef,undef,undef,undef,undef,undef,undef,undef,undef,undef,undef,undef,undef,undef,undef,undef,undef]
def pv3_b (u w:Int):List Value:= [.int .u64 u,.int .i64 w,.int .i64 3,undef,undef,undef,.pointer (some ⟨0,0,none⟩),.pointer (some ⟨1,0,none⟩),.int .i64 0,.pointer (some ⟨2,0,none⟩),.int .i64 3,.int .u64 u,.int .i64 w,.agg (wA .u64 16 (ofL u w)),.int .i64 0,.bool true,undef,undef,.int .i64 0,.pointer (some ⟨1,0,none⟩),.int .u64 ((ofL u w).getD 0 0),.int .u64 (IntKind.u64.wrap (((ofL u w).getD 0 0)+1)),.pointer (some ⟨1,0,none⟩),.int .i64 0,.pointer (some ⟨1,0,none⟩),.int .u64 ((lset 16 (ofL u w) 0 (IntKind.u64.wrap (((ofL u w).getD 0 0)+1))).getD 0 0),.bool true,undef,undef,.agg (wA .u64 16 (lset 16 (ofL u w) 0 (IntKind.u64.wrap (((ofL u w).getD 0 0)+1)))),.int .i64 3,.int .i64 3,.bool false,.int .i64 2,.int .i64 3,.agg (wA .u64 16 (tmO (dL (wA .u64 16 (lset 16 (ofL u w) 0 (IntKind.u64.wrap (((ofL u w).getD 0 0)+1))))) (dL (wA .u64 16 (lset 16 (ofL u w) 0 (IntKind.u64.wrap (((ofL u w).getD 0 0)+1))))) 16)),.agg (wA .u64 16 (lset 16 (ofL u w) 0 (IntKind.u64.wrap (((ofL u w).getD 0 0)+1)))),.agg (wA .u64 16 (tmO (dL (wA .u64 16 (tmO (dL (wA .u64 16 (lset 16 (ofL u w) 0 (IntKind.u64.wrap (((ofL u w).getD 0 0)+1))))) (dL (wA .u64 16 (lset 16 (ofL u w) 0 (IntKind.u64.wrap (((ofL u w).getD 0 0)+1))))) 16))) (dL (wA .u64 16 (lset 16 (ofL u w) 0 (IntKind.u64.wrap (((ofL u w).getD 0 0)+1))))) 16)),.agg (wA .u64 16 (tmO (dL (wA .u64 16 (tmO (dL (wA .u64 16 (lset 16 (ofL u w) 0 (IntKind.u64.wrap (((ofL u w).getD 0 0)+1))))) (dL (wA .u64 16 (lset 16 (ofL u w) 0 (IntKind.u64.wrap (((ofL u w).getD 0 0)+1))))) 16))) (dL (wA .u64 16 (lset 16 (ofL u w) 0 (IntKind.u64.wrap (((ofL u w).getD 0 0)+1))))) 16))]
theorem pv3_0 (u w:Int):evC (yty.en tabS10) pv3_h (cAt [] (bdy Tryd.f17)) ⟨pv3_a u w,[],True,[none,none,none,some (.agg (wA .u64 16 (lset 16 (ofL u w) 0 (IntKind.u64.wrap (((ofL u w).getD 0 0)+1))))),none,some (.bool true)]⟩=some (.ret,⟨pv3_b u w,[((wA .u64 16 (tmO (dL (wA .u64 16 (tmO (dL (wA .u64 16 (lset 16 (ofL u w) 0 (IntKind.u64.wrap (((ofL u w).getD 0 0)+1))))) (dL (wA .u64 16 (lset 16 (ofL u w) 0 (IntKind.u64.wrap (((ofL u w).getD 0 0)+1))))) 16))) (dL (wA .u64 16 (lset 16 (ofL u w) 0 (IntKind.u64.wrap (((ofL u w).getD 0 0)+1))))) 16)),(35,(0,0))),((wA .u64 16 (lset 16 (ofL u w) 0 (IntKind.u64.wrap (((ofL u w).getD 0 0)+1)))),(35,(0,0))),((wA .u64 16 (tmO (dL (wA .u64 16 (tmO (dL (wA .u64 16 (lset 16 (ofL u w) 0 (IntKind.u64.wrap (((ofL u w).getD 0 0)+1))))) (dL (wA .u64 16 (lset 16 (ofL u w) 0 (IntKind.u64.wrap (((ofL u w).getD 0 0)+1))))) 16))) (dL (wA .u64 16 (lset 16 (ofL u w) 0 (IntKind.u64.wrap (((ofL u w).getD 0 0)+1))))) 16)),(35,(0,0)))],(((((((((((((((((((((((((((((((((((((((((((((True∧True)∧True)∧(IntKind.u64=IntKind.u64∧IntKind.i64=IntKind.i64))∧((wA .u64 16 (ofL u w)).all (fun v=>v.oneCell')=true))∧True)∧True)∧True)∧True)∧((0:Int)≤0∧(0:Int)<((16:Nat):Int)))∧True)∧True)∧((0:Int)≤0∧(0:Int)<((16:Nat):Int)))∧(0<(wA .u64 16 (ofL u w)).size∧(wA .u64 16 (ofL u w)).setIfInBounds (0) (.int .u64 (IntKind.u64.wrap (((ofL u w).getD 0 0)+1)))=(wA .u64 16 (lset 16 (ofL u w) 0 (IntKind.u64.wrap (((ofL u w).getD 0 0)+1))))))∧True)∧((0:Int)≤0∧(0:Int)<((16:Nat):Int)))∧True)∧(True∧(decide (((lset 16 (ofL u w) 0 (IntKind.u64.wrap (((ofL u w).getD 0 0)+1))).getD 0 0)<65536))=true))∧True)∧((wA .u64 16 (lset 16 (ofL u w) 0 (IntKind.u64.wrap (((ofL u w).getD 0 0)+1)))).all (fun v=>v.oneCell')=true))∧True)∧True)∧True)∧True)∧True)∧True)∧((wA .u64 16 (lset 16 (ofL u w) 0 (IntKind.u64.wrap (((ofL u w).getD 0 0)+1))))=wA .u64 16 (dL (wA .u64 16 (lset 16 (ofL u w) 0 (IntKind.u64.wrap (((ofL u w).getD 0 0)+1)))))∧(wA .u64 16 (lset 16 (ofL u w) 0 (IntKind.u64.wrap (((ofL u w).getD 0 0)+1))))=wA .u64 16 (dL (wA .u64 16 (lset 16 (ofL u w) 0 (IntKind.u64.wrap (((ofL u w).getD 0 0)+1)))))))∧((wA .u64 16 (tmO (dL (wA .u64 16 (lset 16 (ofL u w) 0 (IntKind.u64.wrap (((ofL u w).getD 0 0)+1))))) (dL (wA .u64 16 (lset 16 (ofL u w) 0 (IntKind.u64.wrap (((ofL u w).getD 0 0)+1))))) 16)).all (fun v=>v.oneCell')=true))∧True)∧True)∧True)∧True)∧True)∧True)∧True)∧True)∧((wA .u64 16 (tmO (dL (wA .u64 16 (lset 16 (ofL u w) 0 (IntKind.u64.wrap (((ofL u w).getD 0 0)+1))))) (dL (wA .u64 16 (lset 16 (ofL u w) 0 (IntKind.u64.wrap (((ofL u w).getD 0 0)+1))))) 16))=wA .u64 16 (dL (wA .u64 16 (tmO (dL (wA .u64 16 (lset 16 (ofL u w) 0 (IntKind.u64.wrap (((ofL u w).getD 0 0)+1))))) (dL (wA .u64 16 (lset 16 (ofL u w) 0 (IntKind.u64.wrap (((ofL u w).getD 0 0)+1))))) 16)))∧(wA .u64 16 (lset 16 (ofL u w) 0 (IntKind.u64.wrap (((ofL u w).getD 0 0)+1))))=wA .u64 16 (dL (wA .u64 16 (lset 16 (ofL u w) 0 (IntKind.u64.wrap (((ofL u w).getD 0 0)+1)))))))∧((wA .u64 16 (tmO (dL (wA .u64 16 (tmO (dL (wA .u64 16 (lset 16 (ofL u w) 0 (IntKind.u64.wrap (((ofL u w).getD 0 0)+1))))) (dL (wA .u64 16 (lset 16 (ofL u w) 0 (IntKind.u64.wrap (((ofL u w).getD 0 0)+1))))) 16))) (dL (wA .u64 16 (lset 16 (ofL u w) 0 (IntKind.u64.wrap (((ofL u w).getD 0 0)+1))))) 16)).all (fun v=>v.oneCell')=true))∧True)∧True)∧True)∧True)∧True)∧True)∧True)∧((wA .u64 16 (tmO (dL (wA .u64 16 (tmO (dL (wA .u64 16 (lset 16 (ofL u w) 0 (IntKind.u64.wrap (((ofL u w).getD 0 0)+1))))) (dL (wA .u64 16 (lset 16 (ofL u w) 0 (IntKind.u64.wrap (((ofL u w).getD 0 0)+1))))) 16))) (dL (wA .u64 16 (lset 16 (ofL u w) 0 (IntKind.u64.wrap (((ofL u w).getD 0 0)+1))))) 16)).all (fun v=>v.oneCell')=true)),[]⟩):=by kernel_rfl
theorem pv3_r (u w:Int)   (q0:((wA .u64 16 (ofL u w)).all (fun v=>v.oneCell')=true)) (q1:(0<(wA .u64 16 (ofL u w)).size∧(wA .u64 16 (ofL u w)).setIfInBounds (0) (.int .u64 (IntKind.u64.wrap (((ofL u w).getD 0 0)+1)))=(wA .u64 16 (lset 16 (ofL u w) 0 (IntKind.u64.wrap (((ofL u w).getD 0 0)+1)))))) (q2:((wA .u64 16 (lset 16 (ofL u w) 0 (IntKind.u64.wrap (((ofL u w).getD 0 0)+1)))).all (fun v=>v.oneCell')=true)) (q3:((wA .u64 16 (tmO (dL (wA .u64 16 (lset 16 (ofL u w) 0 (IntKind.u64.wrap (((ofL u w).getD 0 0)+1))))) (dL (wA .u64 16 (lset 16 (ofL u w) 0 (IntKind.u64.wrap (((ofL u w).getD 0 0)+1))))) 16)).all (fun v=>v.oneCell')=true)) (q4:((wA .u64 16 (tmO (dL (wA .u64 16 (tmO (dL (wA .u64 16 (lset 16 (ofL u w) 0 (IntKind.u64.wrap (((ofL u w).getD 0 0)+1))))) (dL (wA .u64 16 (lset 16 (ofL u w) 0 (IntKind.u64.wrap (((ofL u w).getD 0 0)+1))))) 16))) (dL (wA .u64 16 (lset 16 (ofL u w) 0 (IntKind.u64.wrap (((ofL u w).getD 0 0)+1))))) 16)).all (fun v=>v.oneCell')=true)) (q5:((wA .u64 16 (tmO (dL (wA .u64 16 (tmO (dL (wA .u64 16 (lset 16 (ofL u w) 0 (IntKind.u64.wrap (((ofL u w).getD 0 0)+1))))) (dL (wA .u64 16 (lset 16 (ofL u w) 0 (IntKind.u64.wrap (((ofL u w).getD 0 0)+1))))) 16))) (dL (wA .u64 16 (lset 16 (ofL u w) 0 (IntKind.u64.wrap (((ofL u w).getD 0 0)+1))))) 16)).all (fun v=>v.oneCell')=true)) (h1:(decide (((lset 16 (ofL u w) 0 (IntKind.u64.wrap (((ofL u w).getD 0 0)+1))).getD 0 0)<65536))=true) {c0:Prop} {ch0:List (Option Value)}:Runs Tryd.prog (cAt [] (bdy Tryd.f17)) ⟨pv3_a u w,[],c0,ch0⟩ (fun e s=>e= .ret∧∃ c ch,s=⟨pv3_b u w,[((wA .u64 16 (tmO (dL (wA .u64 16 (tmO (dL (wA .u64 16 (lset 16 (ofL u w) 0 (IntKind.u64.wrap (((ofL u w).getD 0 0)+1))))) (dL (wA .u64 16 (lset 16 (ofL u w) 0 (IntKind.u64.wrap (((ofL u w).getD 0 0)+1))))) 16))) (dL (wA .u64 16 (lset 16 (ofL u w) 0 (IntKind.u64.wrap (((ofL u w).getD 0 0)+1))))) 16)),(35,(0,0))),((wA .u64 16 (lset 16 (ofL u w) 0 (IntKind.u64.wrap (((ofL u w).getD 0 0)+1)))),(35,(0,0))),((wA .u64 16 (tmO (dL (wA .u64 16 (tmO (dL (wA .u64 16 (lset 16 (ofL u w) 0 (IntKind.u64.wrap (((ofL u w).getD 0 0)+1))))) (dL (wA .u64 16 (lset 16 (ofL u w) 0 (IntKind.u64.wrap (((ofL u w).getD 0 0)+1))))) 16))) (dL (wA .u64 16 (lset 16 (ofL u w) 0 (IntKind.u64.wrap (((ofL u w).getD 0 0)+1))))) 16)),(35,(0,0)))],c,ch⟩):=by
  refine(runs_ev mixed [none,none,none,some (.agg (wA .u64 16 (lset 16 (ofL u w) 0 (IntKind.u64.wrap (((ofL u w).getD 0 0)+1))))),none,some (.bool true)] (pv3_0 u w ) ⟨⟨⟨⟨⟨⟨⟨⟨⟨⟨⟨⟨⟨⟨⟨⟨⟨⟨⟨⟨⟨⟨⟨⟨⟨⟨⟨⟨⟨⟨⟨⟨⟨⟨⟨⟨⟨⟨⟨⟨⟨⟨⟨⟨⟨trivial,trivial⟩,trivial⟩,⟨rfl,rfl⟩⟩,q0⟩,trivial⟩,trivial⟩,trivial⟩,trivial⟩,⟨by decide,by decide⟩⟩,trivial⟩,trivial⟩,⟨by decide,by decide⟩⟩,q1⟩,trivial⟩,⟨by decide,by decide⟩⟩,trivial⟩,⟨trivial,h1⟩⟩,trivial⟩,q2⟩,trivial⟩,trivial⟩,trivial⟩,trivial⟩,trivial⟩,trivial⟩,⟨dw _,dw _⟩⟩,q3⟩,trivial⟩,trivial⟩,trivial⟩,trivial⟩,trivial⟩,trivial⟩,trivial⟩,trivial⟩,⟨dw _,dw _⟩⟩,q4⟩,trivial⟩,trivial⟩,trivial⟩,trivial⟩,trivial⟩,trivial⟩,trivial⟩,q5⟩).mono ?_
  rintro e s ⟨rfl,rfl⟩
  exact⟨rfl,_,_,rfl⟩
def up1 (u w:Int):List Int:=lset 16 (ofL u w) 0 (IntKind.u64.wrap (((ofL u w).getD 0 0)+1))
def pwr (L:List Int) (n:Nat):List Int:=if n=3 then dT (dT L L) L else dT L L
theorem set0 (L:List Int) (x:Int):0<(wA .u64 16 L).size∧(wA .u64 16 L).setIfInBounds (0) (.int .u64 x)=wA .u64 16 (lset 16 L 0 x):=⟨by rw[wA_size];decide,wA_put (by decide)⟩
theorem Pow3_c (u w:Int):Pure Tryd.prog 16 #[.int .u64 u,.int .i64 w,.int .i64 3] (.agg (wA .u64 16 (pwr (ofL u w) 3))):=pw3_p u w
theorem Pow2_c (u w:Int):Pure Tryd.prog 16 #[.int .u64 u,.int .i64 w,.int .i64 2] (.agg (wA .u64 16 (pwr (ofL u w) 2))):=pw2_p u w
theorem PowV3_c (u w:Int) (h:(up1 u w).getD 0 0<65536):Pure Tryd.prog 17 #[.int .u64 u,.int .i64 w,.int .i64 3] (.agg (wA .u64 16 (pwr (up1 u w) 3))):=by
  refine pure_runs (E:=yty.en tabS10) Tryd.func17 (c:=bdy Tryd.f17) (by kernel_rfl) (args:= [.int .u64 u,.int .i64 w,.int .i64 3]) (by kernel_rfl) (K:=fun e s=>e= .ret∧resS (yty.en tabS10) s Tryd.f17.results.toList=some [.agg (wA .u64 16 (pwr (up1 u w) 3))]) ?_ (fun e s h=>⟨h.1,_,h.2,rfl⟩)
  refine(pv3_r u w (wA_one _ _ _) (set0 _ _) (wA_one _ _ _) (wA_one _ _ _) (wA_one _ _ _) (wA_one _ _ _) (decide_eq_true h)).mono ?_
  rintro e s ⟨rfl,c,ch,hs⟩
  subst hs
  exact⟨rfl,by kernel_rfl⟩
theorem PowV2_c (u w:Int) (h:(up1 u w).getD 0 0<65536):Pure Tryd.prog 17 #[.int .u64 u,.int .i64 w,.int .i64 2] (.agg (wA .u64 16 (pwr (up1 u w) 2))):=by
  refine pure_runs (E:=yty.en tabS10) Tryd.func17 (c:=bdy Tryd.f17) (by kernel_rfl) (args:= [.int .u64 u,.int .i64 w,.int .i64 2]) (by kernel_rfl) (K:=fun e s=>e= .ret∧resS (yty.en tabS10) s Tryd.f17.results.toList=some [.agg (wA .u64 16 (pwr (up1 u w) 2))]) ?_ (fun e s h=>⟨h.1,_,h.2,rfl⟩)
  refine(pv2_r u w (wA_one _ _ _) (set0 _ _) (wA_one _ _ _) (wA_one _ _ _) (wA_one _ _ _) (decide_eq_true h)).mono ?_
  rintro e s ⟨rfl,c,ch,hs⟩
  subst hs
  exact⟨rfl,by kernel_rfl⟩
end Go.Proofs.YtpmkojinhebihaaDoor

set_option linter.unusedSimpArgs false
set_option linter.unusedVariables false
/-! Roots: pieces. -/
namespace Go.Proofs.YtpmkojinhebihaaDoor
open Go.RowKit Go.Ev
def un128A_h (i:Nat):Hn:=if i=6 then⟨7,[],[],[],[]⟩ else if i=7 then⟨8,[],[],[],[]⟩ else⟨0,[],[],[],[]⟩
def un128A_a (A:List Int) (p:Int):List Value:= [.agg (wA .u64 16 A),.int .i64 p,.int .i64 128,undef,undef,undef,undef,undef,undef,undef,undef,undef,undef,undef,undef,undef,undef,undef,undef,undef,undef,undef,undef,undef,undef,undef,undef,undef,undef,undef,undef,undef]
def un128A_b (A:List Int) (p:Int):List Value:= [.agg (wA .u64 16 A),.int .i64 p,.int .i64 128,.pointer (some ⟨0,0,none⟩),undef,undef,.bool false,undef,undef,undef,undef,undef,undef,undef,undef,undef,undef,undef,undef,undef,undef,undef,undef,undef,undef,undef,undef,undef,undef,undef,undef,undef]
theorem un128A_0 (A:List Int) (p:Int):evC (yty.en tabS10) un128A_h (cAt [0] (bdy Tryd.f15)) ⟨un128A_a A p,[],True,[]⟩=some (.normal,⟨un128A_b A p,[((wA .u64 16 A),(35,(0,0)))],(True∧True),[]⟩):=by kernel_rfl
theorem un128A_r (A:List Int) (p:Int)    {c0:Prop} {ch0:List (Option Value)}:Runs Tryd.prog (cAt [0] (bdy Tryd.f15)) ⟨un128A_a A p,[],c0,ch0⟩ (fun e s=>e= .normal∧∃ c ch,s=⟨un128A_b A p,[((wA .u64 16 A),(35,(0,0)))],c,ch⟩):=by
  refine(runs_ev mixed [] (un128A_0 A p ) ⟨trivial,trivial⟩).mono ?_
  rintro e s ⟨rfl,rfl⟩
  exact⟨rfl,_,_,rfl⟩
def un128B_h (i:Nat):Hn:=if i=6 then⟨7,[],[],[],[]⟩ else if i=7 then⟨8,[],[],[],[]⟩ else⟨0,[],[],[],[]⟩
def un128B_a (A:List Int) (p:Int):List Value:= [.agg (wA .u64 16 A),.int .i64 p,.int .i64 128,.pointer (some ⟨0,0,none⟩),undef,undef,.bool false,undef,undef,undef,undef,undef,undef,undef,undef,undef,undef,undef,undef,undef,undef,undef,undef,undef,undef,undef,undef,undef,undef,undef,undef,undef]
def un128B_b (A:List Int) (p:Int):List Value:= [.agg (wA .u64 16 A),.int .i64 p,.int .i64 128,.pointer (some ⟨0,0,none⟩),undef,undef,.bool false,.pointer (some ⟨1,0,none⟩),undef,undef,undef,undef,undef,undef,undef,undef,undef,undef,undef,undef,undef,undef,undef,undef,undef,undef,undef,undef,undef,undef,undef,undef]
theorem un128B_0 (A:List Int) (p:Int):evC (yty.en tabS10) un128B_h (cAt [1,0] (bdy Tryd.f15)) ⟨un128B_a A p,[((wA .u64 16 A),(35,(0,0)))],True,[]⟩=some (.normal,⟨un128B_b A p,[((wA .u64 16 A),(35,(0,0))),((wA .u64 16 []),(35,(0,0)))],True,[]⟩):=by kernel_rfl
theorem un128B_r (A:List Int) (p:Int)    {c0:Prop} {ch0:List (Option Value)}:Runs Tryd.prog (cAt [1,0] (bdy Tryd.f15)) ⟨un128B_a A p,[((wA .u64 16 A),(35,(0,0)))],c0,ch0⟩ (fun e s=>e= .normal∧∃ c ch,s=⟨un128B_b A p,[((wA .u64 16 A),(35,(0,0))),((wA .u64 16 []),(35,(0,0)))],c,ch⟩):=by
  refine(runs_ev mixed [] (un128B_0 A p ) trivial).mono ?_
  rintro e s ⟨rfl,rfl⟩
  exact⟨rfl,_,_,rfl⟩
def un128C_h (i:Nat):Hn:=if i=6 then⟨7,[],[],[],[]⟩ else if i=7 then⟨8,[],[],[],[]⟩ else⟨0,[],[],[],[]⟩
def un128C_a (A:List Int) (p:Int):List Value:= [.agg (wA .u64 16 A),.int .i64 p,.int .i64 128,.pointer (some ⟨0,0,none⟩),undef,undef,.bool false,.pointer (some ⟨1,0,none⟩),undef,undef,undef,undef,undef,undef,undef,undef,undef,undef,undef,undef,undef,undef,undef,undef,undef,undef,undef,undef,undef,undef,undef,undef]
def un128C_b (A:List Int) (p:Int):List Value:= [.agg (wA .u64 16 A),.int .i64 p,.int .i64 128,.pointer (some ⟨0,0,none⟩),undef,undef,.bool false,.pointer (some ⟨1,0,none⟩),undef,.int .i64 128,.int .i64 8,.int .i64 p,.int .u64 (IntKind.u64.wrap p),.pointer (some ⟨1,8,none⟩),undef,undef,undef,undef,undef,undef,undef,undef,undef,undef,undef,undef,undef,undef,undef,undef,undef,undef]
theorem un128C_0 (A:List Int) (p:Int):evC (yty.en tabS10) un128C_h (cAt [1,1,0] (bdy Tryd.f15)) ⟨un128C_a A p,[((wA .u64 16 A),(35,(0,0))),((wA .u64 16 []),(35,(0,0)))],True,[none,none,some (.agg (wA .u64 16 (lset 16 [] 8 (IntKind.u64.wrap p))))]⟩=some (.normal,⟨un128C_b A p,[((wA .u64 16 A),(35,(0,0))),((wA .u64 16 (lset 16 [] 8 (IntKind.u64.wrap p))),(35,(0,0)))],((((((True∧True)∧((16:Int)≠0))∧True)∧True)∧((0:Int)≤8∧(8:Int)<((16:Nat):Int)))∧(8<(wA .u64 16 []).size∧(wA .u64 16 []).setIfInBounds (8) (.int .u64 (IntKind.u64.wrap p))=(wA .u64 16 (lset 16 [] 8 (IntKind.u64.wrap p))))),[]⟩):=by kernel_rfl
theorem un128C_r (A:List Int) (p:Int)   (q0:(8<(wA .u64 16 []).size∧(wA .u64 16 []).setIfInBounds (8) (.int .u64 (IntKind.u64.wrap p))=(wA .u64 16 (lset 16 [] 8 (IntKind.u64.wrap p)))))  {c0:Prop} {ch0:List (Option Value)}:Runs Tryd.prog (cAt [1,1,0] (bdy Tryd.f15)) ⟨un128C_a A p,[((wA .u64 16 A),(35,(0,0))),((wA .u64 16 []),(35,(0,0)))],c0,ch0⟩ (fun e s=>e= .normal∧∃ c ch,s=⟨un128C_b A p,[((wA .u64 16 A),(35,(0,0))),((wA .u64 16 (lset 16 [] 8 (IntKind.u64.wrap p))),(35,(0,0)))],c,ch⟩):=by
  refine(runs_ev mixed [none,none,some (.agg (wA .u64 16 (lset 16 [] 8 (IntKind.u64.wrap p))))] (un128C_0 A p ) ⟨⟨⟨⟨⟨⟨trivial,trivial⟩,(by decide)⟩,trivial⟩,trivial⟩,⟨by decide,by decide⟩⟩,q0⟩).mono ?_
  rintro e s ⟨rfl,rfl⟩
  exact⟨rfl,_,_,rfl⟩
def un192A_h (i:Nat):Hn:=if i=6 then⟨7,[],[],[],[]⟩ else if i=7 then⟨8,[],[],[],[]⟩ else⟨0,[],[],[],[]⟩
def un192A_a (A:List Int) (p:Int):List Value:= [.agg (wA .u64 16 A),.int .i64 p,.int .i64 192,undef,undef,undef,undef,undef,undef,undef,undef,undef,undef,undef,undef,undef,undef,undef,undef,undef,undef,undef,undef,undef,undef,undef,undef,undef,undef,undef,undef,undef]
def un192A_b (A:List Int) (p:Int):List Value:= [.agg (wA .u64 16 A),.int .i64 p,.int .i64 192,.pointer (some ⟨0,0,none⟩),undef,undef,.bool false,undef,undef,undef,undef,undef,undef,undef,undef,undef,undef,undef,undef,undef,undef,undef,undef,undef,undef,undef,undef,undef,undef,undef,undef,undef]
theorem un192A_0 (A:List Int) (p:Int):evC (yty.en tabS10) un192A_h (cAt [0] (bdy Tryd.f15)) ⟨un192A_a A p,[],True,[]⟩=some (.normal,⟨un192A_b A p,[((wA .u64 16 A),(35,(0,0)))],(True∧True),[]⟩):=by kernel_rfl
theorem un192A_r (A:List Int) (p:Int)    {c0:Prop} {ch0:List (Option Value)}:Runs Tryd.prog (cAt [0] (bdy Tryd.f15)) ⟨un192A_a A p,[],c0,ch0⟩ (fun e s=>e= .normal∧∃ c ch,s=⟨un192A_b A p,[((wA .u64 16 A),(35,(0,0)))],c,ch⟩):=by
  refine(runs_ev mixed [] (un192A_0 A p ) ⟨trivial,trivial⟩).mono ?_
  rintro e s ⟨rfl,rfl⟩
  exact⟨rfl,_,_,rfl⟩
def un192B_h (i:Nat):Hn:=if i=6 then⟨7,[],[],[],[]⟩ else if i=7 then⟨8,[],[],[],[]⟩ else⟨0,[],[],[],[]⟩
def un192B_a (A:List Int) (p:Int):List Value:= [.agg (wA .u64 16 A),.int .i64 p,.int .i64 192,.pointer (some ⟨0,0,none⟩),undef,undef,.bool false,undef,undef,undef,undef,undef,undef,undef,undef,undef,undef,undef,undef,undef,undef,undef,undef,undef,undef,undef,undef,undef,undef,undef,undef,undef]
def un192B_b (A:List Int) (p:Int):List Value:= [.agg (wA .u64 16 A),.int .i64 p,.int .i64 192,.pointer (some ⟨0,0,none⟩),undef,undef,.bool false,.pointer (some ⟨1,0,none⟩),undef,undef,undef,undef,undef,undef,undef,undef,undef,undef,undef,undef,undef,undef,undef,undef,undef,undef,undef,undef,undef,undef,undef,undef]
theorem un192B_0 (A:List Int) (p:Int):evC (yty.en tabS10) un192B_h (cAt [1,0] (bdy Tryd.f15)) ⟨un192B_a A p,[((wA .u64 16 A),(35,(0,0)))],True,[]⟩=some (.normal,⟨un192B_b A p,[((wA .u64 16 A),(35,(0,0))),((wA .u64 16 []),(35,(0,0)))],True,[]⟩):=by kernel_rfl
theorem un192B_r (A:List Int) (p:Int)    {c0:Prop} {ch0:List (Option Value)}:Runs Tryd.prog (cAt [1,0] (bdy Tryd.f15)) ⟨un192B_a A p,[((wA .u64 16 A),(35,(0,0)))],c0,ch0⟩ (fun e s=>e= .normal∧∃ c ch,s=⟨un192B_b A p,[((wA .u64 16 A),(35,(0,0))),((wA .u64 16 []),(35,(0,0)))],c,ch⟩):=by
  refine(runs_ev mixed [] (un192B_0 A p ) trivial).mono ?_
  rintro e s ⟨rfl,rfl⟩
  exact⟨rfl,_,_,rfl⟩
def un192C_h (i:Nat):Hn:=if i=6 then⟨7,[],[],[],[]⟩ else if i=7 then⟨8,[],[],[],[]⟩ else⟨0,[],[],[],[]⟩
def un192C_a (A:List Int) (p:Int):List Value:= [.agg (wA .u64 16 A),.int .i64 p,.int .i64 192,.pointer (some ⟨0,0,none⟩),undef,undef,.bool false,.pointer (some ⟨1,0,none⟩),undef,undef,undef,undef,undef,undef,undef,undef,undef,undef,undef,undef,undef,undef,undef,undef,undef,undef,undef,undef,undef,undef,undef,undef]
def un192C_b (A:List Int) (p:Int):List Value:= [.agg (wA .u64 16 A),.int .i64 p,.int .i64 192,.pointer (some ⟨0,0,none⟩),undef,undef,.bool false,.pointer (some ⟨1,0,none⟩),undef,.int .i64 192,.int .i64 12,.int .i64 p,.int .u64 (IntKind.u64.wrap p),.pointer (some ⟨1,12,none⟩),undef,undef,undef,undef,undef,undef,undef,undef,undef,undef,undef,undef,undef,undef,undef,undef,undef,undef]
theorem un192C_0 (A:List Int) (p:Int):evC (yty.en tabS10) un192C_h (cAt [1,1,0] (bdy Tryd.f15)) ⟨un192C_a A p,[((wA .u64 16 A),(35,(0,0))),((wA .u64 16 []),(35,(0,0)))],True,[none,none,some (.agg (wA .u64 16 (lset 16 [] 12 (IntKind.u64.wrap p))))]⟩=some (.normal,⟨un192C_b A p,[((wA .u64 16 A),(35,(0,0))),((wA .u64 16 (lset 16 [] 12 (IntKind.u64.wrap p))),(35,(0,0)))],((((((True∧True)∧((16:Int)≠0))∧True)∧True)∧((0:Int)≤12∧(12:Int)<((16:Nat):Int)))∧(12<(wA .u64 16 []).size∧(wA .u64 16 []).setIfInBounds (12) (.int .u64 (IntKind.u64.wrap p))=(wA .u64 16 (lset 16 [] 12 (IntKind.u64.wrap p))))),[]⟩):=by kernel_rfl
theorem un192C_r (A:List Int) (p:Int)   (q0:(12<(wA .u64 16 []).size∧(wA .u64 16 []).setIfInBounds (12) (.int .u64 (IntKind.u64.wrap p))=(wA .u64 16 (lset 16 [] 12 (IntKind.u64.wrap p)))))  {c0:Prop} {ch0:List (Option Value)}:Runs Tryd.prog (cAt [1,1,0] (bdy Tryd.f15)) ⟨un192C_a A p,[((wA .u64 16 A),(35,(0,0))),((wA .u64 16 []),(35,(0,0)))],c0,ch0⟩ (fun e s=>e= .normal∧∃ c ch,s=⟨un192C_b A p,[((wA .u64 16 A),(35,(0,0))),((wA .u64 16 (lset 16 [] 12 (IntKind.u64.wrap p))),(35,(0,0)))],c,ch⟩):=by
  refine(runs_ev mixed [none,none,some (.agg (wA .u64 16 (lset 16 [] 12 (IntKind.u64.wrap p))))] (un192C_0 A p ) ⟨⟨⟨⟨⟨⟨trivial,trivial⟩,(by decide)⟩,trivial⟩,trivial⟩,⟨by decide,by decide⟩⟩,q0⟩).mono ?_
  rintro e s ⟨rfl,rfl⟩
  exact⟨rfl,_,_,rfl⟩
def unD_h (i:Nat):Hn:=if i=6 then⟨7,[],[],[],[]⟩ else if i=7 then⟨8,[],[],[],[]⟩ else⟨0,[],[],[],[]⟩
def unD_a (A B:List Int) (j:Nat→Value):List Value:= [j 0,j 1,j 2,.pointer (some ⟨0,0,none⟩),j 4,j 5,j 6,.pointer (some ⟨1,0,none⟩),j 8,j 9,j 10,j 11,j 12,j 13,j 14,j 15,j 16,j 17,j 18,j 19,j 20,j 21,j 22,j 23,j 24,j 25,j 26,j 27,j 28,j 29,j 30,j 31]
def unD_b (A B:List Int) (j:Nat→Value):List Value:= [j 0,j 1,j 2,.pointer (some ⟨0,0,none⟩),j 4,j 5,j 6,.pointer (some ⟨1,0,none⟩),.int .i64 15,j 9,j 10,j 11,j 12,j 13,j 14,j 15,j 16,j 17,j 18,j 19,j 20,j 21,j 22,j 23,j 24,j 25,j 26,j 27,j 28,j 29,j 30,j 31]
theorem unD_0 (A B:List Int) (j:Nat→Value):evC (yty.en tabS10) unD_h (cAt [1,1,1,0,0] (bdy Tryd.f15)) ⟨unD_a A B j,[((wA .u64 16 A),(35,(0,0))),((wA .u64 16 B),(35,(0,0)))],True,[]⟩=some (.normal,⟨unD_b A B j,[((wA .u64 16 A),(35,(0,0))),((wA .u64 16 B),(35,(0,0)))],(True∧True),[]⟩):=by kernel_rfl
theorem unD_r (A B:List Int) (j:Nat→Value)   {c0:Prop} {ch0:List (Option Value)}:Runs Tryd.prog (cAt [1,1,1,0,0] (bdy Tryd.f15)) ⟨unD_a A B j,[((wA .u64 16 A),(35,(0,0))),((wA .u64 16 B),(35,(0,0)))],c0,ch0⟩ (fun e s=>e= .normal∧∃ c ch,s=⟨unD_b A B j,[((wA .u64 16 A),(35,(0,0))),((wA .u64 16 B),(35,(0,0)))],c,ch⟩):=by
  refine(runs_ev mixed [] (unD_0 A B j) ⟨trivial,trivial⟩).mono ?_
  rintro e s ⟨rfl,rfl⟩
  exact⟨rfl,_,_,rfl⟩
def unT_h (i:Nat):Hn:=if i=6 then⟨7,[],[],[],[]⟩ else if i=7 then⟨8,[],[],[],[]⟩ else⟨0,[],[],[],[]⟩
def unT_a (A B:List Int) (m:Nat) (j:Nat→Value):List Value:= [j 0,j 1,j 2,.pointer (some ⟨0,0,none⟩),j 4,j 5,j 6,.pointer (some ⟨1,0,none⟩),.int .i64 (m:Int),j 9,j 10,j 11,j 12,j 13,j 14,j 15,j 16,j 17,j 18,j 19,j 20,j 21,j 22,j 23,j 24,j 25,j 26,j 27,j 28,j 29,j 30,j 31]
def unT_b (A B:List Int) (m:Nat) (j:Nat→Value):List Value:= [j 0,j 1,j 2,.pointer (some ⟨0,0,none⟩),j 4,j 5,.bool (decide ((A.getD m 0)<(B.getD m 0))),.pointer (some ⟨1,0,none⟩),.int .i64 (m:Int),j 9,j 10,j 11,j 12,j 13,.int .i64 (m:Int),.bool true,j 16,j 17,.int .i64 (m:Int),.pointer (some ⟨0,0+Int.toNat (m:Int)*1,none⟩),.int .u64 (A.getD m 0),.int .i64 (m:Int),.pointer (some ⟨1,0+Int.toNat (m:Int)*1,none⟩),.int .u64 (B.getD m 0),.bool true,.int .i64 (m:Int),.pointer (some ⟨0,0+Int.toNat (m:Int)*1,none⟩),.int .u64 (A.getD m 0),.int .i64 (m:Int),.pointer (some ⟨1,0+Int.toNat (m:Int)*1,none⟩),.int .u64 (B.getD m 0),.bool (decide ((A.getD m 0)<(B.getD m 0)))]
theorem unT_0 (A B:List Int) (m:Nat) (j:Nat→Value):evC (yty.en tabS10) unT_h (cAt [1,1,1,0,1,0,0] (bdy Tryd.f15)) ⟨unT_a A B m j,[((wA .u64 16 A),(35,(0,0))),((wA .u64 16 B),(35,(0,0)))],True,[some (.bool true),some (.int .u64 (A.getD m 0)),some (.int .u64 (B.getD m 0)),some (.bool true),some (.int .u64 (A.getD m 0)),some (.int .u64 (B.getD m 0))]⟩=some (.ret,⟨unT_b A B m j,[((wA .u64 16 A),(35,(0,0))),((wA .u64 16 B),(35,(0,0)))],(((((((((((((((((True∧True)∧(True∧(decide (0≤(m:Int)))=true))∧True)∧(0≤(m:Int)∧(m:Int)<((16:Nat):Int)))∧(((wA .u64 16 A)[(0+Int.toNat (m:Int)*1)]? =some (.int .u64 (A.getD m 0)))∧(A.getD m 0)=(A.getD m 0)))∧True)∧(0≤(m:Int)∧(m:Int)<((16:Nat):Int)))∧(((wA .u64 16 B)[(0+Int.toNat (m:Int)*1)]? =some (.int .u64 (B.getD m 0)))∧(B.getD m 0)=(B.getD m 0)))∧(True∧(!decide ((A.getD m 0)=(B.getD m 0)))=true))∧True)∧(0≤(m:Int)∧(m:Int)<((16:Nat):Int)))∧(((wA .u64 16 A)[(0+Int.toNat (m:Int)*1)]? =some (.int .u64 (A.getD m 0)))∧(A.getD m 0)=(A.getD m 0)))∧True)∧(0≤(m:Int)∧(m:Int)<((16:Nat):Int)))∧(((wA .u64 16 B)[(0+Int.toNat (m:Int)*1)]? =some (.int .u64 (B.getD m 0)))∧(B.getD m 0)=(B.getD m 0)))∧True)∧True),[]⟩):=by kernel_rfl
theorem unT_r (A B:List Int) (m:Nat) (j:Nat→Value)  (q0:(0≤(m:Int)∧(m:Int)<((16:Nat):Int))) (q1:(((wA .u64 16 A)[(0+Int.toNat (m:Int)*1)]? =some (.int .u64 (A.getD m 0)))∧(A.getD m 0)=(A.getD m 0))) (q2:(0≤(m:Int)∧(m:Int)<((16:Nat):Int))) (q3:(((wA .u64 16 B)[(0+Int.toNat (m:Int)*1)]? =some (.int .u64 (B.getD m 0)))∧(B.getD m 0)=(B.getD m 0))) (q4:(0≤(m:Int)∧(m:Int)<((16:Nat):Int))) (q5:(((wA .u64 16 A)[(0+Int.toNat (m:Int)*1)]? =some (.int .u64 (A.getD m 0)))∧(A.getD m 0)=(A.getD m 0))) (q6:(0≤(m:Int)∧(m:Int)<((16:Nat):Int))) (q7:(((wA .u64 16 B)[(0+Int.toNat (m:Int)*1)]? =some (.int .u64 (B.getD m 0)))∧(B.getD m 0)=(B.getD m 0))) (h0:(decide (0≤(m:Int)))=true) (h1:(!decide ((A.getD m 0)=(B.getD m 0)))=true) {c0:Prop} {ch0:List (Option Value)}:Runs Tryd.prog (cAt [1,1,1,0,1,0,0] (bdy Tryd.f15)) ⟨unT_a A B m j,[((wA .u64 16 A),(35,(0,0))),((wA .u64 16 B),(35,(0,0)))],c0,ch0⟩ (fun e s=>e= .ret∧∃ c ch,s=⟨unT_b A B m j,[((wA .u64 16 A),(35,(0,0))),((wA .u64 16 B),(35,(0,0)))],c,ch⟩):=by
  refine(runs_ev mixed [some (.bool true),some (.int .u64 (A.getD m 0)),some (.int .u64 (B.getD m 0)),some (.bool true),some (.int .u64 (A.getD m 0)),some (.int .u64 (B.getD m 0))] (unT_0 A B m j) ⟨⟨⟨⟨⟨⟨⟨⟨⟨⟨⟨⟨⟨⟨⟨⟨⟨trivial,trivial⟩,⟨trivial,h0⟩⟩,trivial⟩,q0⟩,q1⟩,trivial⟩,q2⟩,q3⟩,⟨trivial,h1⟩⟩,trivial⟩,q4⟩,q5⟩,trivial⟩,q6⟩,q7⟩,trivial⟩,trivial⟩).mono ?_
  rintro e s ⟨rfl,rfl⟩
  exact⟨rfl,_,_,rfl⟩
def unS_h (i:Nat):Hn:=if i=6 then⟨7,[],[],[],[]⟩ else if i=7 then⟨8,[],[],[],[]⟩ else⟨0,[],[],[],[]⟩
def unS_a (A B:List Int) (m:Nat) (j:Nat→Value):List Value:= [j 0,j 1,j 2,.pointer (some ⟨0,0,none⟩),j 4,j 5,j 6,.pointer (some ⟨1,0,none⟩),.int .i64 (m:Int),j 9,j 10,j 11,j 12,j 13,j 14,j 15,j 16,j 17,j 18,j 19,j 20,j 21,j 22,j 23,j 24,j 25,j 26,j 27,j 28,j 29,j 30,j 31]
def unS_b (A B:List Int) (m:Nat) (j:Nat→Value):List Value:= [j 0,j 1,j 2,.pointer (some ⟨0,0,none⟩),j 4,j 5,j 6,.pointer (some ⟨1,0,none⟩),.int .i64 ((m:Int) - 1),j 9,j 10,j 11,j 12,j 13,.int .i64 (m:Int),.bool true,.int .i64 (m:Int),.int .i64 ((m:Int) - 1),.int .i64 (m:Int),.pointer (some ⟨0,0+Int.toNat (m:Int)*1,none⟩),.int .u64 (A.getD m 0),.int .i64 (m:Int),.pointer (some ⟨1,0+Int.toNat (m:Int)*1,none⟩),.int .u64 (B.getD m 0),.bool false,j 25,j 26,j 27,j 28,j 29,j 30,j 31]
theorem unS_0 (A B:List Int) (m:Nat) (j:Nat→Value):evC (yty.en tabS10) unS_h (cAt [1,1,1,0,1,0,0] (bdy Tryd.f15)) ⟨unS_a A B m j,[((wA .u64 16 A),(35,(0,0))),((wA .u64 16 B),(35,(0,0)))],True,[some (.bool true),some (.int .u64 (A.getD m 0)),some (.int .u64 (B.getD m 0)),some (.bool false),some (.int .i64 ((m:Int) - 1))]⟩=some (.normal,⟨unS_b A B m j,[((wA .u64 16 A),(35,(0,0))),((wA .u64 16 B),(35,(0,0)))],((((((((((((True∧True)∧(True∧(decide (0≤(m:Int)))=true))∧True)∧(0≤(m:Int)∧(m:Int)<((16:Nat):Int)))∧(((wA .u64 16 A)[(0+Int.toNat (m:Int)*1)]? =some (.int .u64 (A.getD m 0)))∧(A.getD m 0)=(A.getD m 0)))∧True)∧(0≤(m:Int)∧(m:Int)<((16:Nat):Int)))∧(((wA .u64 16 B)[(0+Int.toNat (m:Int)*1)]? =some (.int .u64 (B.getD m 0)))∧(B.getD m 0)=(B.getD m 0)))∧(True∧(!decide ((A.getD m 0)=(B.getD m 0)))=false))∧True)∧(True∧(IntKind.i64.wrap ((m:Int) - 1))=((m:Int) - 1)))∧True),[]⟩):=by kernel_rfl
theorem unS_r (A B:List Int) (m:Nat) (j:Nat→Value)  (q0:(0≤(m:Int)∧(m:Int)<((16:Nat):Int))) (q1:(((wA .u64 16 A)[(0+Int.toNat (m:Int)*1)]? =some (.int .u64 (A.getD m 0)))∧(A.getD m 0)=(A.getD m 0))) (q2:(0≤(m:Int)∧(m:Int)<((16:Nat):Int))) (q3:(((wA .u64 16 B)[(0+Int.toNat (m:Int)*1)]? =some (.int .u64 (B.getD m 0)))∧(B.getD m 0)=(B.getD m 0))) (q4:(True∧(IntKind.i64.wrap ((m:Int) - 1))=((m:Int) - 1))) (h0:(decide (0≤(m:Int)))=true) (h1:(!decide ((A.getD m 0)=(B.getD m 0)))=false) {c0:Prop} {ch0:List (Option Value)}:Runs Tryd.prog (cAt [1,1,1,0,1,0,0] (bdy Tryd.f15)) ⟨unS_a A B m j,[((wA .u64 16 A),(35,(0,0))),((wA .u64 16 B),(35,(0,0)))],c0,ch0⟩ (fun e s=>e= .normal∧∃ c ch,s=⟨unS_b A B m j,[((wA .u64 16 A),(35,(0,0))),((wA .u64 16 B),(35,(0,0)))],c,ch⟩):=by
  refine(runs_ev mixed [some (.bool true),some (.int .u64 (A.getD m 0)),some (.int .u64 (B.getD m 0)),some (.bool false),some (.int .i64 ((m:Int) - 1))] (unS_0 A B m j) ⟨⟨⟨⟨⟨⟨⟨⟨⟨⟨⟨⟨trivial,trivial⟩,⟨trivial,h0⟩⟩,trivial⟩,q0⟩,q1⟩,trivial⟩,q2⟩,q3⟩,⟨trivial,h1⟩⟩,trivial⟩,q4⟩,trivial⟩).mono ?_
  rintro e s ⟨rfl,rfl⟩
  exact⟨rfl,_,_,rfl⟩
def unX_h (i:Nat):Hn:=if i=6 then⟨7,[],[],[],[]⟩ else if i=7 then⟨8,[],[],[],[]⟩ else⟨0,[],[],[],[]⟩
def unX_a (A B:List Int) (j:Nat→Value):List Value:= [j 0,j 1,j 2,.pointer (some ⟨0,0,none⟩),j 4,j 5,j 6,.pointer (some ⟨1,0,none⟩),.int .i64 (-1),j 9,j 10,j 11,j 12,j 13,j 14,j 15,j 16,j 17,j 18,j 19,j 20,j 21,j 22,j 23,j 24,j 25,j 26,j 27,j 28,j 29,j 30,j 31]
def unX_b (A B:List Int) (j:Nat→Value):List Value:= [j 0,j 1,j 2,.pointer (some ⟨0,0,none⟩),j 4,j 5,j 6,.pointer (some ⟨1,0,none⟩),.int .i64 (-1),j 9,j 10,j 11,j 12,j 13,.int .i64 (-1),.bool false,j 16,j 17,j 18,j 19,j 20,j 21,j 22,j 23,j 24,j 25,j 26,j 27,j 28,j 29,j 30,j 31]
theorem unX_0 (A B:List Int) (j:Nat→Value):evC (yty.en tabS10) unX_h (cAt [1,1,1,0,1,0,0] (bdy Tryd.f15)) ⟨unX_a A B j,[((wA .u64 16 A),(35,(0,0))),((wA .u64 16 B),(35,(0,0)))],True,[]⟩=some ((.exit 0),⟨unX_b A B j,[((wA .u64 16 A),(35,(0,0))),((wA .u64 16 B),(35,(0,0)))],((True∧True)∧True),[]⟩):=by kernel_rfl
theorem unX_r (A B:List Int) (j:Nat→Value)   {c0:Prop} {ch0:List (Option Value)}:Runs Tryd.prog (cAt [1,1,1,0,1,0,0] (bdy Tryd.f15)) ⟨unX_a A B j,[((wA .u64 16 A),(35,(0,0))),((wA .u64 16 B),(35,(0,0)))],c0,ch0⟩ (fun e s=>e=(.exit 0)∧∃ c ch,s=⟨unX_b A B j,[((wA .u64 16 A),(35,(0,0))),((wA .u64 16 B),(35,(0,0)))],c,ch⟩):=by
  refine(runs_ev mixed [] (unX_0 A B j) ⟨⟨trivial,trivial⟩,trivial⟩).mono ?_
  rintro e s ⟨rfl,rfl⟩
  exact⟨rfl,_,_,rfl⟩
def unZ_h (i:Nat):Hn:=if i=6 then⟨7,[],[],[],[]⟩ else if i=7 then⟨8,[],[],[],[]⟩ else⟨0,[],[],[],[]⟩
def unZ_a (A B:List Int) (j:Nat→Value):List Value:= [j 0,j 1,j 2,.pointer (some ⟨0,0,none⟩),j 4,j 5,j 6,.pointer (some ⟨1,0,none⟩),j 8,j 9,j 10,j 11,j 12,j 13,j 14,j 15,j 16,j 17,j 18,j 19,j 20,j 21,j 22,j 23,j 24,j 25,j 26,j 27,j 28,j 29,j 30,j 31]
def unZ_b (A B:List Int) (j:Nat→Value):List Value:= [j 0,j 1,j 2,.pointer (some ⟨0,0,none⟩),j 4,j 5,.bool true,.pointer (some ⟨1,0,none⟩),j 8,j 9,j 10,j 11,j 12,j 13,j 14,j 15,j 16,j 17,j 18,j 19,j 20,j 21,j 22,j 23,j 24,j 25,j 26,j 27,j 28,j 29,j 30,j 31]
theorem unZ_0 (A B:List Int) (j:Nat→Value):evC (yty.en tabS10) unZ_h (cAt [1,1,1,1] (bdy Tryd.f15)) ⟨unZ_a A B j,[((wA .u64 16 A),(35,(0,0))),((wA .u64 16 B),(35,(0,0)))],True,[]⟩=some (.ret,⟨unZ_b A B j,[((wA .u64 16 A),(35,(0,0))),((wA .u64 16 B),(35,(0,0)))],(True∧True),[]⟩):=by kernel_rfl
theorem unZ_r (A B:List Int) (j:Nat→Value)   {c0:Prop} {ch0:List (Option Value)}:Runs Tryd.prog (cAt [1,1,1,1] (bdy Tryd.f15)) ⟨unZ_a A B j,[((wA .u64 16 A),(35,(0,0))),((wA .u64 16 B),(35,(0,0)))],c0,ch0⟩ (fun e s=>e= .ret∧∃ c ch,s=⟨unZ_b A B j,[((wA .u64 16 A),(35,(0,0))),((wA .u64 16 B),(35,(0,0)))],c,ch⟩):=by
  refine(runs_ev mixed [] (unZ_0 A B j) ⟨trivial,trivial⟩).mono ?_
  rintro e s ⟨rfl,rfl⟩
  exact⟨rfl,_,_,rfl⟩
def prA_h (i:Nat):Hn:=⟨0,[],[],[],[]⟩
def prA_a (n:Nat):List Value:= [.int .i64 (n:Int),undef,undef,undef,undef,undef,undef,undef,undef,undef,undef,undef,undef,undef,undef,undef,undef,undef,undef,undef,undef,undef,undef,undef,undef,undef,undef,undef]
def prA_b (n:Nat):List Value:= [.int .i64 (n:Int),undef,.int .i64 0,undef,undef,undef,undef,undef,undef,undef,undef,undef,undef,undef,undef,undef,undef,undef,undef,undef,undef,undef,undef,undef,undef,undef,undef,undef]
theorem prA_0 (n:Nat):evC (yty.en tabS10) prA_h (cAt [0] (bdy Tryd.f13)) ⟨prA_a n,[],True,[]⟩=some (.normal,⟨prA_b n,[],(True∧True),[]⟩):=by kernel_rfl
theorem prA_r (n:Nat)    {c0:Prop} {ch0:List (Option Value)}:Runs Tryd.prog (cAt [0] (bdy Tryd.f13)) ⟨prA_a n,[],c0,ch0⟩ (fun e s=>e= .normal∧∃ c ch,s=⟨prA_b n,[],c,ch⟩):=by
  refine(runs_ev mixed [] (prA_0 n ) ⟨trivial,trivial⟩).mono ?_
  rintro e s ⟨rfl,rfl⟩
  exact⟨rfl,_,_,rfl⟩
def prB_h (i:Nat):Hn:=⟨0,[],[],[],[]⟩
def prB_a (n:Nat):List Value:= [.int .i64 (n:Int),undef,.int .i64 0,undef,undef,undef,undef,undef,undef,undef,undef,undef,undef,undef,undef,undef,undef,undef,undef,undef,undef,undef,undef,undef,undef,undef,undef,undef]
def prB_b (n:Nat):List Value:= [.int .i64 (n:Int),undef,.int .i64 0,.int .i64 2,undef,undef,undef,undef,undef,undef,undef,undef,undef,undef,undef,undef,undef,undef,undef,undef,undef,undef,undef,undef,undef,undef,undef,undef]
theorem prB_0 (n:Nat):evC (yty.en tabS10) prB_h (cAt [1,0] (bdy Tryd.f13)) ⟨prB_a n,[],True,[]⟩=some (.normal,⟨prB_b n,[],(True∧True),[]⟩):=by kernel_rfl
theorem prB_r (n:Nat)    {c0:Prop} {ch0:List (Option Value)}:Runs Tryd.prog (cAt [1,0] (bdy Tryd.f13)) ⟨prB_a n,[],c0,ch0⟩ (fun e s=>e= .normal∧∃ c ch,s=⟨prB_b n,[],c,ch⟩):=by
  refine(runs_ev mixed [] (prB_0 n ) ⟨trivial,trivial⟩).mono ?_
  rintro e s ⟨rfl,rfl⟩
  exact⟨rfl,_,_,rfl⟩
def prC_h (i:Nat):Hn:=⟨0,[],[],[],[]⟩
def prC_a (n a:Nat) (j:Nat→Value):List Value:= [.int .i64 (n:Int),j 1,j 2,.int .i64 (a:Int),j 4,j 5,j 6,j 7,j 8,j 9,j 10,j 11,j 12,j 13,j 14,j 15,j 16,j 17,j 18,j 19,j 20,j 21,j 22,j 23,j 24,j 25,j 26,j 27]
def prC_b (n a:Nat) (j:Nat→Value):List Value:= [.int .i64 (n:Int),j 1,j 2,.int .i64 (a:Int),.bool true,j 5,j 6,j 7,j 8,j 9,j 10,j 11,j 12,j 13,j 14,j 15,j 16,j 17,j 18,j 19,j 20,j 21,j 22,j 23,j 24,j 25,j 26,j 27]
theorem prC_0 (n a:Nat) (j:Nat→Value):evC (yty.en tabS10) prC_h (cAt [1,1,0,0,0,0] (bdy Tryd.f13)) ⟨prC_a n a j,[],True,[]⟩=some (.normal,⟨prC_b n a j,[],(True∧True),[]⟩):=by kernel_rfl
theorem prC_r (n a:Nat) (j:Nat→Value)   {c0:Prop} {ch0:List (Option Value)}:Runs Tryd.prog (cAt [1,1,0,0,0,0] (bdy Tryd.f13)) ⟨prC_a n a j,[],c0,ch0⟩ (fun e s=>e= .normal∧∃ c ch,s=⟨prC_b n a j,[],c,ch⟩):=by
  refine(runs_ev mixed [] (prC_0 n a j) ⟨trivial,trivial⟩).mono ?_
  rintro e s ⟨rfl,rfl⟩
  exact⟨rfl,_,_,rfl⟩
def prD_h (i:Nat):Hn:=⟨0,[],[],[],[]⟩
def prD_a (n a:Nat) (j:Nat→Value):List Value:= [.int .i64 (n:Int),j 1,j 2,.int .i64 (a:Int),.bool true,j 5,j 6,j 7,j 8,j 9,j 10,j 11,j 12,j 13,j 14,j 15,j 16,j 17,j 18,j 19,j 20,j 21,j 22,j 23,j 24,j 25,j 26,j 27]
def prD_b (n a:Nat) (j:Nat→Value):List Value:= [.int .i64 (n:Int),j 1,j 2,.int .i64 (a:Int),.bool true,.int .i64 2,j 6,j 7,j 8,j 9,j 10,j 11,j 12,j 13,j 14,j 15,j 16,j 17,j 18,j 19,j 20,j 21,j 22,j 23,j 24,j 25,j 26,j 27]
theorem prD_0 (n a:Nat) (j:Nat→Value):evC (yty.en tabS10) prD_h (cAt [1,1,0,0,0,1,0,0] (bdy Tryd.f13)) ⟨prD_a n a j,[],True,[]⟩=some (.normal,⟨prD_b n a j,[],(True∧True),[]⟩):=by kernel_rfl
theorem prD_r (n a:Nat) (j:Nat→Value)   {c0:Prop} {ch0:List (Option Value)}:Runs Tryd.prog (cAt [1,1,0,0,0,1,0,0] (bdy Tryd.f13)) ⟨prD_a n a j,[],c0,ch0⟩ (fun e s=>e= .normal∧∃ c ch,s=⟨prD_b n a j,[],c,ch⟩):=by
  refine(runs_ev mixed [] (prD_0 n a j) ⟨trivial,trivial⟩).mono ?_
  rintro e s ⟨rfl,rfl⟩
  exact⟨rfl,_,_,rfl⟩
def prT1_h (i:Nat):Hn:=⟨0,[],[],[],[]⟩
def prT1_a (n a d:Nat) (j:Nat→Value):List Value:= [.int .i64 (n:Int),j 1,j 2,.int .i64 (a:Int),.bool true,.int .i64 (d:Int),j 6,j 7,j 8,j 9,j 10,j 11,j 12,j 13,j 14,j 15,j 16,j 17,j 18,j 19,j 20,j 21,j 22,j 23,j 24,j 25,j 26,j 27]
def prT1_b (n a d:Nat) (j:Nat→Value):List Value:= [.int .i64 (n:Int),j 1,j 2,.int .i64 (a:Int),.bool true,.int .i64 ((d+1:Nat):Int),.int .i64 (d:Int),.int .i64 (d:Int),.int .i64 ((d*d:Nat):Int),.int .i64 (a:Int),.bool true,.int .i64 (d:Int),.int .i64 ((d+1:Nat):Int),.bool true,.bool true,.int .i64 (a:Int),.int .i64 (d:Int),.int .i64 ((a%d:Nat):Int),.bool true,.bool true,j 20,j 21,j 22,j 23,j 24,j 25,j 26,j 27]
theorem prT1_0 (n a d:Nat) (j:Nat→Value):evC (yty.en tabS10) prT1_h (cAt [1,1,0,0,0,1,0,1,0,0] (bdy Tryd.f13)) ⟨prT1_a n a d j,[],True,[some (.int .i64 ((d*d:Nat):Int)),some (.bool true),some (.int .i64 ((a%d:Nat):Int)),some (.bool true),some (.int .i64 ((d+1:Nat):Int))]⟩=some (.normal,⟨prT1_b n a d j,[],((((((((((((((((True∧True)∧True)∧(True∧(IntKind.i64.wrap ((d:Int)*(d:Int)))=((d*d:Nat):Int)))∧True)∧(True∧(decide (((d*d:Nat):Int)≤(a:Int)))=true))∧True)∧True)∧True)∧True)∧((((d:Int):Int)≠0)∧(Int.tmod (a:Int) (d:Int))=((a%d:Nat):Int)))∧(True∧(!decide (((a%d:Nat):Int)=0))=true))∧True)∧True)∧True)∧(True∧(IntKind.i64.wrap ((d:Int)+1))=((d+1:Nat):Int)))∧True),[]⟩):=by kernel_rfl
theorem prT1_r (n a d:Nat) (j:Nat→Value)  (q0:(True∧(IntKind.i64.wrap ((d:Int)*(d:Int)))=((d*d:Nat):Int))) (q1:((((d:Int):Int)≠0)∧(Int.tmod (a:Int) (d:Int))=((a%d:Nat):Int))) (q2:(True∧(IntKind.i64.wrap ((d:Int)+1))=((d+1:Nat):Int))) (h0:(decide (((d*d:Nat):Int)≤(a:Int)))=true) (h1:(!decide (((a%d:Nat):Int)=0))=true) {c0:Prop} {ch0:List (Option Value)}:Runs Tryd.prog (cAt [1,1,0,0,0,1,0,1,0,0] (bdy Tryd.f13)) ⟨prT1_a n a d j,[],c0,ch0⟩ (fun e s=>e= .normal∧∃ c ch,s=⟨prT1_b n a d j,[],c,ch⟩):=by
  refine(runs_ev mixed [some (.int .i64 ((d*d:Nat):Int)),some (.bool true),some (.int .i64 ((a%d:Nat):Int)),some (.bool true),some (.int .i64 ((d+1:Nat):Int))] (prT1_0 n a d j) ⟨⟨⟨⟨⟨⟨⟨⟨⟨⟨⟨⟨⟨⟨⟨⟨trivial,trivial⟩,trivial⟩,q0⟩,trivial⟩,⟨trivial,h0⟩⟩,trivial⟩,trivial⟩,trivial⟩,trivial⟩,q1⟩,⟨trivial,h1⟩⟩,trivial⟩,trivial⟩,trivial⟩,q2⟩,trivial⟩).mono ?_
  rintro e s ⟨rfl,rfl⟩
  exact⟨rfl,_,_,rfl⟩
def prT0_h (i:Nat):Hn:=⟨0,[],[],[],[]⟩
def prT0_a (n a d:Nat) (j:Nat→Value):List Value:= [.int .i64 (n:Int),j 1,j 2,.int .i64 (a:Int),.bool true,.int .i64 (d:Int),j 6,j 7,j 8,j 9,j 10,j 11,j 12,j 13,j 14,j 15,j 16,j 17,j 18,j 19,j 20,j 21,j 22,j 23,j 24,j 25,j 26,j 27]
def prT0_b (n a d:Nat) (j:Nat→Value):List Value:= [.int .i64 (n:Int),j 1,j 2,.int .i64 (a:Int),.bool false,.int .i64 ((d+1:Nat):Int),.int .i64 (d:Int),.int .i64 (d:Int),.int .i64 ((d*d:Nat):Int),.int .i64 (a:Int),.bool true,.int .i64 (d:Int),.int .i64 ((d+1:Nat):Int),.bool true,.bool true,.int .i64 (a:Int),.int .i64 (d:Int),.int .i64 ((a%d:Nat):Int),.bool false,.bool false,j 20,j 21,j 22,j 23,j 24,j 25,j 26,j 27]
theorem prT0_0 (n a d:Nat) (j:Nat→Value):evC (yty.en tabS10) prT0_h (cAt [1,1,0,0,0,1,0,1,0,0] (bdy Tryd.f13)) ⟨prT0_a n a d j,[],True,[some (.int .i64 ((d*d:Nat):Int)),some (.bool true),some (.int .i64 ((a%d:Nat):Int)),some (.bool false),some (.int .i64 ((d+1:Nat):Int))]⟩=some (.normal,⟨prT0_b n a d j,[],((((((((((((((((True∧True)∧True)∧(True∧(IntKind.i64.wrap ((d:Int)*(d:Int)))=((d*d:Nat):Int)))∧True)∧(True∧(decide (((d*d:Nat):Int)≤(a:Int)))=true))∧True)∧True)∧True)∧True)∧((((d:Int):Int)≠0)∧(Int.tmod (a:Int) (d:Int))=((a%d:Nat):Int)))∧(True∧(!decide (((a%d:Nat):Int)=0))=false))∧True)∧True)∧True)∧(True∧(IntKind.i64.wrap ((d:Int)+1))=((d+1:Nat):Int)))∧True),[]⟩):=by kernel_rfl
theorem prT0_r (n a d:Nat) (j:Nat→Value)  (q0:(True∧(IntKind.i64.wrap ((d:Int)*(d:Int)))=((d*d:Nat):Int))) (q1:((((d:Int):Int)≠0)∧(Int.tmod (a:Int) (d:Int))=((a%d:Nat):Int))) (q2:(True∧(IntKind.i64.wrap ((d:Int)+1))=((d+1:Nat):Int))) (h0:(decide (((d*d:Nat):Int)≤(a:Int)))=true) (h1:(!decide (((a%d:Nat):Int)=0))=false) {c0:Prop} {ch0:List (Option Value)}:Runs Tryd.prog (cAt [1,1,0,0,0,1,0,1,0,0] (bdy Tryd.f13)) ⟨prT0_a n a d j,[],c0,ch0⟩ (fun e s=>e= .normal∧∃ c ch,s=⟨prT0_b n a d j,[],c,ch⟩):=by
  refine(runs_ev mixed [some (.int .i64 ((d*d:Nat):Int)),some (.bool true),some (.int .i64 ((a%d:Nat):Int)),some (.bool false),some (.int .i64 ((d+1:Nat):Int))] (prT0_0 n a d j) ⟨⟨⟨⟨⟨⟨⟨⟨⟨⟨⟨⟨⟨⟨⟨⟨trivial,trivial⟩,trivial⟩,q0⟩,trivial⟩,⟨trivial,h0⟩⟩,trivial⟩,trivial⟩,trivial⟩,trivial⟩,q1⟩,⟨trivial,h1⟩⟩,trivial⟩,trivial⟩,trivial⟩,q2⟩,trivial⟩).mono ?_
  rintro e s ⟨rfl,rfl⟩
  exact⟨rfl,_,_,rfl⟩
def prTX_h (i:Nat):Hn:=⟨0,[],[],[],[]⟩
def prTX_a (n a d:Nat) (j:Nat→Value):List Value:= [.int .i64 (n:Int),j 1,j 2,.int .i64 (a:Int),.bool true,.int .i64 (d:Int),j 6,j 7,j 8,j 9,j 10,j 11,j 12,j 13,j 14,j 15,j 16,j 17,j 18,j 19,j 20,j 21,j 22,j 23,j 24,j 25,j 26,j 27]
def prTX_b (n a d:Nat) (j:Nat→Value):List Value:= [.int .i64 (n:Int),j 1,j 2,.int .i64 (a:Int),.bool true,.int .i64 (d:Int),.int .i64 (d:Int),.int .i64 (d:Int),.int .i64 ((d*d:Nat):Int),.int .i64 (a:Int),.bool false,j 11,j 12,j 13,j 14,j 15,j 16,j 17,j 18,j 19,j 20,j 21,j 22,j 23,j 24,j 25,j 26,j 27]
theorem prTX_0 (n a d:Nat) (j:Nat→Value):evC (yty.en tabS10) prTX_h (cAt [1,1,0,0,0,1,0,1,0,0] (bdy Tryd.f13)) ⟨prTX_a n a d j,[],True,[some (.int .i64 ((d*d:Nat):Int)),some (.bool false)]⟩=some ((.exit 2),⟨prTX_b n a d j,[],(((((True∧True)∧True)∧(True∧(IntKind.i64.wrap ((d:Int)*(d:Int)))=((d*d:Nat):Int)))∧True)∧(True∧(decide (((d*d:Nat):Int)≤(a:Int)))=false)),[]⟩):=by kernel_rfl
theorem prTX_r (n a d:Nat) (j:Nat→Value)  (q0:(True∧(IntKind.i64.wrap ((d:Int)*(d:Int)))=((d*d:Nat):Int))) (h0:(decide (((d*d:Nat):Int)≤(a:Int)))=false) {c0:Prop} {ch0:List (Option Value)}:Runs Tryd.prog (cAt [1,1,0,0,0,1,0,1,0,0] (bdy Tryd.f13)) ⟨prTX_a n a d j,[],c0,ch0⟩ (fun e s=>e=(.exit 2)∧∃ c ch,s=⟨prTX_b n a d j,[],c,ch⟩):=by
  refine(runs_ev mixed [some (.int .i64 ((d*d:Nat):Int)),some (.bool false)] (prTX_0 n a d j) ⟨⟨⟨⟨⟨trivial,trivial⟩,trivial⟩,q0⟩,trivial⟩,⟨trivial,h0⟩⟩).mono ?_
  rintro e s ⟨rfl,rfl⟩
  exact⟨rfl,_,_,rfl⟩
def prF1_h (i:Nat):Hn:=⟨0,[],[],[],[]⟩
def prF1_a (n a d:Nat) (j:Nat→Value):List Value:= [.int .i64 (n:Int),j 1,j 2,.int .i64 (a:Int),.bool false,.int .i64 (d:Int),j 6,j 7,j 8,j 9,j 10,j 11,j 12,j 13,j 14,j 15,j 16,j 17,j 18,j 19,j 20,j 21,j 22,j 23,j 24,j 25,j 26,j 27]
def prF1_b (n a d:Nat) (j:Nat→Value):List Value:= [.int .i64 (n:Int),j 1,j 2,.int .i64 (a:Int),.bool false,.int .i64 ((d+1:Nat):Int),.int .i64 (d:Int),.int .i64 (d:Int),.int .i64 ((d*d:Nat):Int),.int .i64 (a:Int),.bool true,.int .i64 (d:Int),.int .i64 ((d+1:Nat):Int),.bool false,.bool false,undef,undef,undef,undef,.bool false,j 20,j 21,j 22,j 23,j 24,j 25,j 26,j 27]
theorem prF1_0 (n a d:Nat) (j:Nat→Value):evC (yty.en tabS10) prF1_h (cAt [1,1,0,0,0,1,0,1,0,0] (bdy Tryd.f13)) ⟨prF1_a n a d j,[],True,[some (.int .i64 ((d*d:Nat):Int)),some (.bool true),some (.int .i64 ((d+1:Nat):Int))]⟩=some (.normal,⟨prF1_b n a d j,[],((((((((((((True∧True)∧True)∧(True∧(IntKind.i64.wrap ((d:Int)*(d:Int)))=((d*d:Nat):Int)))∧True)∧(True∧(decide (((d*d:Nat):Int)≤(a:Int)))=true))∧True)∧True)∧True)∧True)∧True)∧(True∧(IntKind.i64.wrap ((d:Int)+1))=((d+1:Nat):Int)))∧True),[]⟩):=by kernel_rfl
theorem prF1_r (n a d:Nat) (j:Nat→Value)  (q0:(True∧(IntKind.i64.wrap ((d:Int)*(d:Int)))=((d*d:Nat):Int))) (q1:(True∧(IntKind.i64.wrap ((d:Int)+1))=((d+1:Nat):Int))) (h0:(decide (((d*d:Nat):Int)≤(a:Int)))=true) {c0:Prop} {ch0:List (Option Value)}:Runs Tryd.prog (cAt [1,1,0,0,0,1,0,1,0,0] (bdy Tryd.f13)) ⟨prF1_a n a d j,[],c0,ch0⟩ (fun e s=>e= .normal∧∃ c ch,s=⟨prF1_b n a d j,[],c,ch⟩):=by
  refine(runs_ev mixed [some (.int .i64 ((d*d:Nat):Int)),some (.bool true),some (.int .i64 ((d+1:Nat):Int))] (prF1_0 n a d j) ⟨⟨⟨⟨⟨⟨⟨⟨⟨⟨⟨⟨trivial,trivial⟩,trivial⟩,q0⟩,trivial⟩,⟨trivial,h0⟩⟩,trivial⟩,trivial⟩,trivial⟩,trivial⟩,trivial⟩,q1⟩,trivial⟩).mono ?_
  rintro e s ⟨rfl,rfl⟩
  exact⟨rfl,_,_,rfl⟩
def prFX_h (i:Nat):Hn:=⟨0,[],[],[],[]⟩
def prFX_a (n a d:Nat) (j:Nat→Value):List Value:= [.int .i64 (n:Int),j 1,j 2,.int .i64 (a:Int),.bool false,.int .i64 (d:Int),j 6,j 7,j 8,j 9,j 10,j 11,j 12,j 13,j 14,j 15,j 16,j 17,j 18,j 19,j 20,j 21,j 22,j 23,j 24,j 25,j 26,j 27]
def prFX_b (n a d:Nat) (j:Nat→Value):List Value:= [.int .i64 (n:Int),j 1,j 2,.int .i64 (a:Int),.bool false,.int .i64 (d:Int),.int .i64 (d:Int),.int .i64 (d:Int),.int .i64 ((d*d:Nat):Int),.int .i64 (a:Int),.bool false,j 11,j 12,j 13,j 14,j 15,j 16,j 17,j 18,j 19,j 20,j 21,j 22,j 23,j 24,j 25,j 26,j 27]
theorem prFX_0 (n a d:Nat) (j:Nat→Value):evC (yty.en tabS10) prFX_h (cAt [1,1,0,0,0,1,0,1,0,0] (bdy Tryd.f13)) ⟨prFX_a n a d j,[],True,[some (.int .i64 ((d*d:Nat):Int)),some (.bool false)]⟩=some ((.exit 2),⟨prFX_b n a d j,[],(((((True∧True)∧True)∧(True∧(IntKind.i64.wrap ((d:Int)*(d:Int)))=((d*d:Nat):Int)))∧True)∧(True∧(decide (((d*d:Nat):Int)≤(a:Int)))=false)),[]⟩):=by kernel_rfl
theorem prFX_r (n a d:Nat) (j:Nat→Value)  (q0:(True∧(IntKind.i64.wrap ((d:Int)*(d:Int)))=((d*d:Nat):Int))) (h0:(decide (((d*d:Nat):Int)≤(a:Int)))=false) {c0:Prop} {ch0:List (Option Value)}:Runs Tryd.prog (cAt [1,1,0,0,0,1,0,1,0,0] (bdy Tryd.f13)) ⟨prFX_a n a d j,[],c0,ch0⟩ (fun e s=>e=(.exit 2)∧∃ c ch,s=⟨prFX_b n a d j,[],c,ch⟩):=by
  refine(runs_ev mixed [some (.int .i64 ((d*d:Nat):Int)),some (.bool false)] (prFX_0 n a d j) ⟨⟨⟨⟨⟨trivial,trivial⟩,trivial⟩,q0⟩,trivial⟩,⟨trivial,h0⟩⟩).mono ?_
  rintro e s ⟨rfl,rfl⟩
  exact⟨rfl,_,_,rfl⟩
end Go.Proofs.YtpmkojinhebihaaDoor

set_option linter.unusedSimpArgs false
set_option linter.unusedVariables false
/-! Roots: what is at most so much; primes. -/
namespace Go.Proofs.YtpmkojinhebihaaDoor
open Go.RowKit Go.Ev
def und (A B:List Int):Nat→Bool
  |0=>true
  |m+1=>if A.getD m 0=B.getD m 0 then und A B m else decide (A.getD m 0<B.getD m 0)
def unM (A B:List Int):List Mb:= [(wA .u64 16 A,(35,(0,0))),(wA .u64 16 B,(35,(0,0)))]
theorem unS_next (A B:List Int) (m:Nat) (j:Nat→Value):unS_b A B (m+1) j=unT_a A B m (fun q=>(unS_b A B (m+1) j).getD q undef):=by
  have e:((m+1:Nat):Int) - 1=(m:Int):=by omega
  unfold unS_b unT_a
  simp only[e]
  rfl
theorem unS_last (A B:List Int) (j:Nat→Value):unS_b A B 0 j=unX_a A B (fun q=>(unS_b A B 0 j).getD q undef):=rfl
theorem un_loop (A B:List Int) (j0:Nat→Value) {c0:Prop} {ch0:List (Option Value)}:Runs Tryd.prog (.loop (cAt [1,1,1,0,1,0,0] (bdy Tryd.f15))) ⟨unT_a A B 15 j0,unM A B,c0,ch0⟩ (fun e s=>(e= .ret∧resS (yty.en tabS10) s Tryd.f15.results.toList=some [.bool (und A B 16)])∨(e= .exit 0∧und A B 16=true∧∃ j c ch,s=⟨unX_a A B j,unM A B,c,ch⟩)):=by
  refine runs_loop (fun M s=>(∃ m j c ch,M=m+1∧m<16∧und A B (m+1)=und A B 16∧s=⟨unT_a A B m j,unM A B,c,ch⟩)∨(∃ j c ch,M=0∧true=und A B 16∧s=⟨unX_a A B j,unM A B,c,ch⟩)) 16 (.inl ⟨15,j0,c0,ch0,rfl,by omega,rfl,rfl⟩) ?_
  rintro M s (⟨m,j,c,ch,rfl,hm,hu,rfl⟩|⟨j,c,ch,rfl,hu,rfl⟩)
  · by_cases h : A.getD m 0 = B.getD m 0
    · refine (unS_r A B m j ⟨by omega, by omega⟩ ⟨wA_get (by omega) (by omega), rfl⟩ ⟨by omega, by omega⟩ ⟨wA_get (by omega) (by omega), rfl⟩ ⟨trivial, wi (by omega) (by omega)⟩ (decide_eq_true (by omega)) (by rw [decide_eq_true h]; rfl)).mono ?_
      rintro e s ⟨rfl,c,ch,hs⟩
      have hu':und A B m=und A B 16:=by rw[← hu,und,if_pos h]
      refine .inl ⟨rfl,m,by omega,?_⟩
      cases m with
      |zero=>exact .inr ⟨_,c,ch,rfl,hu',by rw[hs,unS_last];rfl⟩
      |succ m=>exact .inl ⟨m,_,c,ch,rfl,by omega,hu',by rw[hs,unS_next];rfl⟩
    · refine (unT_r A B m j ⟨by omega, by omega⟩ ⟨wA_get (by omega) (by omega), rfl⟩ ⟨by omega, by omega⟩ ⟨wA_get (by omega) (by omega), rfl⟩ ⟨by omega, by omega⟩ ⟨wA_get (by omega) (by omega), rfl⟩ ⟨by omega, by omega⟩ ⟨wA_get (by omega) (by omega), rfl⟩ (decide_eq_true (by omega)) (by rw [decide_eq_false h]; rfl)).mono ?_
      rintro e s ⟨rfl,c,ch,hs⟩
      refine .inr ⟨by simp,.inl ⟨rfl,?_⟩⟩
      rw[← hu,und,if_neg h]
      subst hs
      kernel_rfl
  · refine (unX_r A B j).mono ?_
    rintro e s ⟨rfl,c,ch,hs⟩
    refine .inr ⟨by simp,.inr ⟨rfl,hu.symm,fun q=>s.tm.getD q undef,c,ch,?_⟩⟩
    subst hs
    rfl
theorem un_shape:(bdy Tryd.f15)= .seq (cAt [0] (bdy Tryd.f15)) (.seq (cAt [1,0] (bdy Tryd.f15)) (.seq (cAt [1,1,0] (bdy Tryd.f15)) (.seq (.seq (cAt [1,1,1,0,0] (bdy Tryd.f15)) (.block 0 (.loop (cAt [1,1,1,0,1,0,0] (bdy Tryd.f15))))) (cAt [1,1,1,1] (bdy Tryd.f15))))):=by kernel_rfl
theorem un_rest (A B:List Int) (j:Nat→Value) {c0:Prop} {ch0:List (Option Value)}:Runs Tryd.prog (.seq (.seq (cAt [1,1,1,0,0] (bdy Tryd.f15)) (.block 0 (.loop (cAt [1,1,1,0,1,0,0] (bdy Tryd.f15))))) (cAt [1,1,1,1] (bdy Tryd.f15))) ⟨unD_a A B j,unM A B,c0,ch0⟩ (fun e s=>e= .ret∧resS (yty.en tabS10) s Tryd.f15.results.toList=some [.bool (und A B 16)]):=by
  refine runs_seq (K1:=fun e s=>(e= .ret∧resS (yty.en tabS10) s Tryd.f15.results.toList=some [.bool (und A B 16)])∨(e= .normal∧und A B 16=true∧∃ j c ch,s=⟨unX_a A B j,unM A B,c,ch⟩)) ?_ (fun s h=> ?_) (fun e s hne h=> ?_)
  · refine runs_seq (unD_r A B j) (fun s h => ?_) (fun e s hne h => absurd h.1 hne)
    obtain⟨_,c,ch,hs⟩:=h
    have hs':s=⟨unT_a A B 15 (fun q=>s.tm.getD q undef),unM A B,c,ch⟩:=by subst hs;rfl
    rw[hs']
    refine runs_block (un_loop A B _) ?_
    rintro e s (⟨rfl,h⟩|⟨rfl,h⟩)
    · exact .inr (.inr ⟨rfl,.inl ⟨rfl,h⟩⟩)
    · exact .inl ⟨rfl,.inr ⟨rfl,h⟩⟩
  · rcases h with ⟨h, _⟩ | ⟨_, hu, j, c, ch, rfl⟩
    · cases h
    · have hs0 : unX_a A B j = unZ_a A B (fun q => (unX_a A B j).getD q undef) := rfl
      rw[hs0]
      refine(unZ_r A B _).mono ?_
      rintro e s ⟨rfl,c,ch,hs⟩
      rw[hu]
      subst hs
      exact⟨rfl,by kernel_rfl⟩
  · rcases h with h | ⟨h, _⟩
    · exact h
    · exact absurd h hne
theorem Under128_c (A:List Int) (p:Int):Pure Tryd.prog 15 #[.agg (wA .u64 16 A),.int .i64 p,.int .i64 128] (.bool (und A (lset 16 [] 8 (IntKind.u64.wrap p)) 16)):=by
  refine pure_runs (E:=yty.en tabS10) Tryd.func15 (c:=(bdy Tryd.f15)) (by kernel_rfl) (args:= [.agg (wA .u64 16 A),.int .i64 p,.int .i64 128]) (by kernel_rfl) (K:=fun e s=>e= .ret∧resS (yty.en tabS10) s Tryd.f15.results.toList=some [.bool (und A (lset 16 [] 8 (IntKind.u64.wrap p)) 16)]) ?_ (fun e s h=>⟨h.1,_,h.2,rfl⟩)
  rw[un_shape]
  refine runs_seq (un128A_r A p) (fun s h=> ?_) (fun e s hne h=>absurd h.1 hne)
  obtain⟨_,c,ch,rfl⟩:=h
  refine runs_seq (un128B_r A p) (fun s h=> ?_) (fun e s hne h=>absurd h.1 hne)
  obtain⟨_,c,ch,rfl⟩:=h
  refine runs_seq (un128C_r A p ⟨by rw[wA_size];decide,wA_put (by decide)⟩) (fun s h=> ?_) (fun e s hne h=>absurd h.1 hne)
  obtain⟨_,c,ch,hs⟩:=h
  have hs':s=⟨unD_a A (lset 16 [] 8 (IntKind.u64.wrap p)) (fun q=>s.tm.getD q undef),unM A (lset 16 [] 8 (IntKind.u64.wrap p)),c,ch⟩:=by subst hs;rfl
  rw[hs']
  exact un_rest A _ _
theorem Under192_c (A:List Int) (p:Int):Pure Tryd.prog 15 #[.agg (wA .u64 16 A),.int .i64 p,.int .i64 192] (.bool (und A (lset 16 [] 12 (IntKind.u64.wrap p)) 16)):=by
  refine pure_runs (E:=yty.en tabS10) Tryd.func15 (c:=(bdy Tryd.f15)) (by kernel_rfl) (args:= [.agg (wA .u64 16 A),.int .i64 p,.int .i64 192]) (by kernel_rfl) (K:=fun e s=>e= .ret∧resS (yty.en tabS10) s Tryd.f15.results.toList=some [.bool (und A (lset 16 [] 12 (IntKind.u64.wrap p)) 16)]) ?_ (fun e s h=>⟨h.1,_,h.2,rfl⟩)
  rw[un_shape]
  refine runs_seq (un192A_r A p) (fun s h=> ?_) (fun e s hne h=>absurd h.1 hne)
  obtain⟨_,c,ch,rfl⟩:=h
  refine runs_seq (un192B_r A p) (fun s h=> ?_) (fun e s hne h=>absurd h.1 hne)
  obtain⟨_,c,ch,rfl⟩:=h
  refine runs_seq (un192C_r A p ⟨by rw[wA_size];decide,wA_put (by decide)⟩) (fun s h=> ?_) (fun e s hne h=>absurd h.1 hne)
  obtain⟨_,c,ch,hs⟩:=h
  have hs':s=⟨unD_a A (lset 16 [] 12 (IntKind.u64.wrap p)) (fun q=>s.tm.getD q undef),unM A (lset 16 [] 12 (IntKind.u64.wrap p)),c,ch⟩:=by subst hs;rfl
  rw[hs']
  exact un_rest A _ _
end Go.Proofs.YtpmkojinhebihaaDoor

set_option linter.unusedSimpArgs false
set_option linter.unusedVariables false
/-! Primes. -/
namespace Go.Proofs.YtpmkojinhebihaaDoor
open Go.RowKit Go.Ev
def prN_h (i:Nat):Hn:=⟨0,[],[],[],[]⟩
def prN_a (n a:Nat) (j:Nat→Value):List Value:= [.int .i64 (n:Int),j 1,j 2,.int .i64 (a:Int),.bool false,j 5,j 6,j 7,j 8,j 9,j 10,j 11,j 12,j 13,j 14,j 15,j 16,j 17,j 18,j 19,j 20,j 21,j 22,j 23,j 24,j 25,j 26,j 27]
def prN_b (n a:Nat) (j:Nat→Value):List Value:= [.int .i64 (n:Int),j 1,j 2,.int .i64 ((a+1:Nat):Int),.bool false,j 5,j 6,j 7,j 8,j 9,j 10,j 11,j 12,j 13,j 14,j 15,j 16,j 17,j 18,j 19,.bool false,j 21,j 22,j 23,j 24,j 25,.int .i64 (a:Int),.int .i64 ((a+1:Nat):Int)]
theorem prN_0 (n a:Nat) (j:Nat→Value):evC (yty.en tabS10) prN_h (cAt [1,1,0,0,0,1,1] (bdy Tryd.f13)) ⟨prN_a n a j,[],True,[some (.int .i64 ((a+1:Nat):Int))]⟩=some (.normal,⟨prN_b n a j,[],((((True∧True)∧True)∧(True∧(IntKind.i64.wrap ((a:Int)+1))=((a+1:Nat):Int)))∧True),[]⟩):=by kernel_rfl
theorem prN_r (n a:Nat) (j:Nat→Value)  (q0:(True∧(IntKind.i64.wrap ((a:Int)+1))=((a+1:Nat):Int)))  {c0:Prop} {ch0:List (Option Value)}:Runs Tryd.prog (cAt [1,1,0,0,0,1,1] (bdy Tryd.f13)) ⟨prN_a n a j,[],c0,ch0⟩ (fun e s=>e= .normal∧∃ c ch,s=⟨prN_b n a j,[],c,ch⟩):=by
  refine(runs_ev mixed [some (.int .i64 ((a+1:Nat):Int))] (prN_0 n a j) ⟨⟨⟨⟨trivial,trivial⟩,trivial⟩,q0⟩,trivial⟩).mono ?_
  rintro e s ⟨rfl,rfl⟩
  exact⟨rfl,_,_,rfl⟩
def prR_h (i:Nat):Hn:=⟨0,[],[],[],[]⟩
def prR_a (n a:Nat) (j:Nat→Value):List Value:= [.int .i64 (n:Int),j 1,j 2,.int .i64 (a:Int),.bool true,j 5,j 6,j 7,j 8,j 9,j 10,j 11,j 12,j 13,j 14,j 15,j 16,j 17,j 18,j 19,j 20,j 21,j 22,j 23,j 24,j 25,j 26,j 27]
def prR_b (n a:Nat) (j:Nat→Value):List Value:= [.int .i64 (n:Int),j 1,.int .i64 (a:Int),.int .i64 (a:Int),.bool true,j 5,j 6,j 7,j 8,j 9,j 10,j 11,j 12,j 13,j 14,j 15,j 16,j 17,j 18,j 19,.bool true,.int .i64 (n:Int),.bool true,.int .i64 (a:Int),j 24,j 25,j 26,j 27]
theorem prR_0 (n a:Nat) (j:Nat→Value):evC (yty.en tabS10) prR_h (cAt [1,1,0,0,0,1,1] (bdy Tryd.f13)) ⟨prR_a n a j,[],True,[some (.bool true)]⟩=some (.ret,⟨prR_b n a j,[],(((((True∧True)∧True)∧(True∧(decide ((n:Int)=0))=true))∧True)∧True),[]⟩):=by kernel_rfl
theorem prR_r (n a:Nat) (j:Nat→Value)  (h0:(decide ((n:Int)=0))=true) {c0:Prop} {ch0:List (Option Value)}:Runs Tryd.prog (cAt [1,1,0,0,0,1,1] (bdy Tryd.f13)) ⟨prR_a n a j,[],c0,ch0⟩ (fun e s=>e= .ret∧∃ c ch,s=⟨prR_b n a j,[],c,ch⟩):=by
  refine(runs_ev mixed [some (.bool true)] (prR_0 n a j) ⟨⟨⟨⟨⟨trivial,trivial⟩,trivial⟩,⟨trivial,h0⟩⟩,trivial⟩,trivial⟩).mono ?_
  rintro e s ⟨rfl,rfl⟩
  exact⟨rfl,_,_,rfl⟩
def prM_h (i:Nat):Hn:=⟨0,[],[],[],[]⟩
def prM_a (n a:Nat) (j:Nat→Value):List Value:= [.int .i64 (n:Int),j 1,j 2,.int .i64 (a:Int),.bool true,j 5,j 6,j 7,j 8,j 9,j 10,j 11,j 12,j 13,j 14,j 15,j 16,j 17,j 18,j 19,j 20,j 21,j 22,j 23,j 24,j 25,j 26,j 27]
def prM_b (n a:Nat) (j:Nat→Value):List Value:= [.int .i64 ((n - 1:Nat):Int),j 1,j 2,.int .i64 ((a+1:Nat):Int),.bool true,j 5,j 6,j 7,j 8,j 9,j 10,j 11,j 12,j 13,j 14,j 15,j 16,j 17,j 18,j 19,.bool true,.int .i64 (n:Int),.bool false,j 23,.int .i64 (n:Int),.int .i64 ((n - 1:Nat):Int),.int .i64 (a:Int),.int .i64 ((a+1:Nat):Int)]
theorem prM_0 (n a:Nat) (j:Nat→Value):evC (yty.en tabS10) prM_h (cAt [1,1,0,0,0,1,1] (bdy Tryd.f13)) ⟨prM_a n a j,[],True,[some (.bool false),some (.int .i64 ((n - 1:Nat):Int)),some (.int .i64 ((a+1:Nat):Int))]⟩=some (.normal,⟨prM_b n a j,[],(((((((((True∧True)∧True)∧(True∧(decide ((n:Int)=0))=false))∧True)∧(True∧(IntKind.i64.wrap ((n:Int) - 1))=((n - 1:Nat):Int)))∧True)∧True)∧(True∧(IntKind.i64.wrap ((a:Int)+1))=((a+1:Nat):Int)))∧True),[]⟩):=by kernel_rfl
theorem prM_r (n a:Nat) (j:Nat→Value)  (q0:(True∧(IntKind.i64.wrap ((n:Int) - 1))=((n - 1:Nat):Int))) (q1:(True∧(IntKind.i64.wrap ((a:Int)+1))=((a+1:Nat):Int))) (h0:(decide ((n:Int)=0))=false) {c0:Prop} {ch0:List (Option Value)}:Runs Tryd.prog (cAt [1,1,0,0,0,1,1] (bdy Tryd.f13)) ⟨prM_a n a j,[],c0,ch0⟩ (fun e s=>e= .normal∧∃ c ch,s=⟨prM_b n a j,[],c,ch⟩):=by
  refine(runs_ev mixed [some (.bool false),some (.int .i64 ((n - 1:Nat):Int)),some (.int .i64 ((a+1:Nat):Int))] (prM_0 n a j) ⟨⟨⟨⟨⟨⟨⟨⟨⟨trivial,trivial⟩,trivial⟩,⟨trivial,h0⟩⟩,trivial⟩,q0⟩,trivial⟩,trivial⟩,q1⟩,trivial⟩).mono ?_
  rintro e s ⟨rfl,rfl⟩
  exact⟨rfl,_,_,rfl⟩
def k80_h (i:Nat):Hn:=⟨0,[],[],[],[]⟩
def k80_a (n:Nat):List Value:= [.int .i64 (n:Int),undef,undef,undef,undef,undef,undef,undef]
def k80_b (n:Nat):List Value:= [.int .i64 (n:Int),undef,.int .u64 (kL5.getD n 0),.pointer (some ⟨0,0,none⟩),.agg (#[.int .u64 4794697086780616226,.int .u64 8158064640168781261,.int .u64 13096744586834688815,.int .u64 16840607885511220156,.int .u64 4131703408338449720,.int .u64 6480981068601479193,.int .u64 10538285296894168987,.int .u64 12329834152419229976,.int .u64 15566598209576043074,.int .u64 1334009975649890238,.int .u64 2608012711638119052,.int .u64 6128411473006802146,.int .u64 8268148722764581231,.int .u64 9286055187155687089,.int .u64 11230858885718282805,.int .u64 13951009754708518548,.int .u64 16472876342353939154,.int .u64 17275323862435702243,.int .u64 1135362057144423861,.int .u64 2597628984639134821,.int .u64 3308224258029322869,.int .u64 5365058923640841347,.int .u64 6679025012923562964,.int .u64 8573033837759648693,.int .u64 10970295158949994411,.int .u64 12119686244451234320,.int .u64 12683024718118986047,.int .u64 13788192230050041572,.int .u64 14330467153632333762,.int .u64 15395433587784984357,.int .u64 489312712824947311,.int .u64 1452737877330783856,.int .u64 2861767655752347644,.int .u64 3322285676063803686,.int .u64 5560940570517711597,.int .u64 5996557281743188959,.int .u64 7280758554555802590,.int .u64 8532644243296465576,.int .u64 9350256976987008742,.int .u64 10552545826968843579,.int .u64 11727347734174303076,.int .u64 12113106623233404929,.int .u64 14000437183269869457,.int .u64 14369950271660146224,.int .u64 15101387698204529176,.int .u64 15463397548674623760,.int .u64 17586052441742319658,.int .u64 1182934255886127544,.int .u64 1847814050463011016,.int .u64 2177327727835720531,.int .u64 2830643537854262169,.int .u64 3796741975233480872,.int .u64 4115178125766777443,.int .u64 5681478168544905931,.int .u64 6601373596472566643,.int .u64 7507060721942968483,.int .u64 8399075790359081724,.int .u64 8693463985226723168,.int .u64 9568029438360202098,.int .u64 10144078919501101548,.int .u64 10430055236837252648,.int .u64 11840083180663258601,.int .u64 13761210420658862357,.int .u64 14299343276471374635,.int .u64 14566680578165727644,.int .u64 15097957966210449927,.int .u64 16922976911328602910,.int .u64 17689382322260857208,.int .u64 500013540394364858,.int .u64 748580250866718886,.int .u64 1242879168328830382,.int .u64 1977374033974150939,.int .u64 2944078676154940804,.int .u64 3659926193048069267,.int .u64 4368137639120453308,.int .u64 4836135668995329356,.int .u64 5532061633213252278,.int .u64 6448918945643986474,.int .u64 6902733635092675308,.int .u64 7801388544844847127]:Array Value),.int .i64 (n:Int),.pointer (some ⟨0,0+Int.toNat (n:Int)*1,none⟩),.int .u64 (kL5.getD n 0)]
theorem k80_0 (n:Nat):evC (yty.en tabS10) k80_h (cAt [] (bdy Tryd.f14)) ⟨k80_a n,[],True,[some (.int .u64 (kL5.getD n 0))]⟩=some (.ret,⟨k80_b n,[((#[.int .u64 4794697086780616226,.int .u64 8158064640168781261,.int .u64 13096744586834688815,.int .u64 16840607885511220156,.int .u64 4131703408338449720,.int .u64 6480981068601479193,.int .u64 10538285296894168987,.int .u64 12329834152419229976,.int .u64 15566598209576043074,.int .u64 1334009975649890238,.int .u64 2608012711638119052,.int .u64 6128411473006802146,.int .u64 8268148722764581231,.int .u64 9286055187155687089,.int .u64 11230858885718282805,.int .u64 13951009754708518548,.int .u64 16472876342353939154,.int .u64 17275323862435702243,.int .u64 1135362057144423861,.int .u64 2597628984639134821,.int .u64 3308224258029322869,.int .u64 5365058923640841347,.int .u64 6679025012923562964,.int .u64 8573033837759648693,.int .u64 10970295158949994411,.int .u64 12119686244451234320,.int .u64 12683024718118986047,.int .u64 13788192230050041572,.int .u64 14330467153632333762,.int .u64 15395433587784984357,.int .u64 489312712824947311,.int .u64 1452737877330783856,.int .u64 2861767655752347644,.int .u64 3322285676063803686,.int .u64 5560940570517711597,.int .u64 5996557281743188959,.int .u64 7280758554555802590,.int .u64 8532644243296465576,.int .u64 9350256976987008742,.int .u64 10552545826968843579,.int .u64 11727347734174303076,.int .u64 12113106623233404929,.int .u64 14000437183269869457,.int .u64 14369950271660146224,.int .u64 15101387698204529176,.int .u64 15463397548674623760,.int .u64 17586052441742319658,.int .u64 1182934255886127544,.int .u64 1847814050463011016,.int .u64 2177327727835720531,.int .u64 2830643537854262169,.int .u64 3796741975233480872,.int .u64 4115178125766777443,.int .u64 5681478168544905931,.int .u64 6601373596472566643,.int .u64 7507060721942968483,.int .u64 8399075790359081724,.int .u64 8693463985226723168,.int .u64 9568029438360202098,.int .u64 10144078919501101548,.int .u64 10430055236837252648,.int .u64 11840083180663258601,.int .u64 13761210420658862357,.int .u64 14299343276471374635,.int .u64 14566680578165727644,.int .u64 15097957966210449927,.int .u64 16922976911328602910,.int .u64 17689382322260857208,.int .u64 500013540394364858,.int .u64 748580250866718886,.int .u64 1242879168328830382,.int .u64 1977374033974150939,.int .u64 2944078676154940804,.int .u64 3659926193048069267,.int .u64 4368137639120453308,.int .u64 4836135668995329356,.int .u64 5532061633213252278,.int .u64 6448918945643986474,.int .u64 6902733635092675308,.int .u64 7801388544844847127]:Array Value),(55,(0,0)))],(((((((True∧True)∧True)∧((#[.int .u64 4794697086780616226,.int .u64 8158064640168781261,.int .u64 13096744586834688815,.int .u64 16840607885511220156,.int .u64 4131703408338449720,.int .u64 6480981068601479193,.int .u64 10538285296894168987,.int .u64 12329834152419229976,.int .u64 15566598209576043074,.int .u64 1334009975649890238,.int .u64 2608012711638119052,.int .u64 6128411473006802146,.int .u64 8268148722764581231,.int .u64 9286055187155687089,.int .u64 11230858885718282805,.int .u64 13951009754708518548,.int .u64 16472876342353939154,.int .u64 17275323862435702243,.int .u64 1135362057144423861,.int .u64 2597628984639134821,.int .u64 3308224258029322869,.int .u64 5365058923640841347,.int .u64 6679025012923562964,.int .u64 8573033837759648693,.int .u64 10970295158949994411,.int .u64 12119686244451234320,.int .u64 12683024718118986047,.int .u64 13788192230050041572,.int .u64 14330467153632333762,.int .u64 15395433587784984357,.int .u64 489312712824947311,.int .u64 1452737877330783856,.int .u64 2861767655752347644,.int .u64 3322285676063803686,.int .u64 5560940570517711597,.int .u64 5996557281743188959,.int .u64 7280758554555802590,.int .u64 8532644243296465576,.int .u64 9350256976987008742,.int .u64 10552545826968843579,.int .u64 11727347734174303076,.int .u64 12113106623233404929,.int .u64 14000437183269869457,.int .u64 14369950271660146224,.int .u64 15101387698204529176,.int .u64 15463397548674623760,.int .u64 17586052441742319658,.int .u64 1182934255886127544,.int .u64 1847814050463011016,.int .u64 2177327727835720531,.int .u64 2830643537854262169,.int .u64 3796741975233480872,.int .u64 4115178125766777443,.int .u64 5681478168544905931,.int .u64 6601373596472566643,.int .u64 7507060721942968483,.int .u64 8399075790359081724,.int .u64 8693463985226723168,.int .u64 9568029438360202098,.int .u64 10144078919501101548,.int .u64 10430055236837252648,.int .u64 11840083180663258601,.int .u64 13761210420658862357,.int .u64 14299343276471374635,.int .u64 14566680578165727644,.int .u64 15097957966210449927,.int .u64 16922976911328602910,.int .u64 17689382322260857208,.int .u64 500013540394364858,.int .u64 748580250866718886,.int .u64 1242879168328830382,.int .u64 1977374033974150939,.int .u64 2944078676154940804,.int .u64 3659926193048069267,.int .u64 4368137639120453308,.int .u64 4836135668995329356,.int .u64 5532061633213252278,.int .u64 6448918945643986474,.int .u64 6902733635092675308,.int .u64 7801388544844847127]:Array Value).all (fun v=>v.oneCell')=true))∧True)∧(0≤(n:Int)∧(n:Int)<((80:Nat):Int)))∧(((#[.int .u64 4794697086780616226,.int .u64 8158064640168781261,.int .u64 13096744586834688815,.int .u64 16840607885511220156,.int .u64 4131703408338449720,.int .u64 6480981068601479193,.int .u64 10538285296894168987,.int .u64 12329834152419229976,.int .u64 15566598209576043074,.int .u64 1334009975649890238,.int .u64 2608012711638119052,.int .u64 6128411473006802146,.int .u64 8268148722764581231,.int .u64 9286055187155687089,.int .u64 11230858885718282805,.int .u64 13951009754708518548,.int .u64 16472876342353939154,.int .u64 17275323862435702243,.int .u64 1135362057144423861,.int .u64 2597628984639134821,.int .u64 3308224258029322869,.int .u64 5365058923640841347,.int .u64 6679025012923562964,.int .u64 8573033837759648693,.int .u64 10970295158949994411,.int .u64 12119686244451234320,.int .u64 12683024718118986047,.int .u64 13788192230050041572,.int .u64 14330467153632333762,.int .u64 15395433587784984357,.int .u64 489312712824947311,.int .u64 1452737877330783856,.int .u64 2861767655752347644,.int .u64 3322285676063803686,.int .u64 5560940570517711597,.int .u64 5996557281743188959,.int .u64 7280758554555802590,.int .u64 8532644243296465576,.int .u64 9350256976987008742,.int .u64 10552545826968843579,.int .u64 11727347734174303076,.int .u64 12113106623233404929,.int .u64 14000437183269869457,.int .u64 14369950271660146224,.int .u64 15101387698204529176,.int .u64 15463397548674623760,.int .u64 17586052441742319658,.int .u64 1182934255886127544,.int .u64 1847814050463011016,.int .u64 2177327727835720531,.int .u64 2830643537854262169,.int .u64 3796741975233480872,.int .u64 4115178125766777443,.int .u64 5681478168544905931,.int .u64 6601373596472566643,.int .u64 7507060721942968483,.int .u64 8399075790359081724,.int .u64 8693463985226723168,.int .u64 9568029438360202098,.int .u64 10144078919501101548,.int .u64 10430055236837252648,.int .u64 11840083180663258601,.int .u64 13761210420658862357,.int .u64 14299343276471374635,.int .u64 14566680578165727644,.int .u64 15097957966210449927,.int .u64 16922976911328602910,.int .u64 17689382322260857208,.int .u64 500013540394364858,.int .u64 748580250866718886,.int .u64 1242879168328830382,.int .u64 1977374033974150939,.int .u64 2944078676154940804,.int .u64 3659926193048069267,.int .u64 4368137639120453308,.int .u64 4836135668995329356,.int .u64 5532061633213252278,.int .u64 6448918945643986474,.int .u64 6902733635092675308,.int .u64 7801388544844847127]:Array Value)[(0+Int.toNat (n:Int)*1)]? =some (.int .u64 (kL5.getD n 0)))∧(kL5.getD n 0)=(kL5.getD n 0)))∧True),[]⟩):=by kernel_rfl
theorem k80_r (n:Nat)   (q0:((#[.int .u64 4794697086780616226,.int .u64 8158064640168781261,.int .u64 13096744586834688815,.int .u64 16840607885511220156,.int .u64 4131703408338449720,.int .u64 6480981068601479193,.int .u64 10538285296894168987,.int .u64 12329834152419229976,.int .u64 15566598209576043074,.int .u64 1334009975649890238,.int .u64 2608012711638119052,.int .u64 6128411473006802146,.int .u64 8268148722764581231,.int .u64 9286055187155687089,.int .u64 11230858885718282805,.int .u64 13951009754708518548,.int .u64 16472876342353939154,.int .u64 17275323862435702243,.int .u64 1135362057144423861,.int .u64 2597628984639134821,.int .u64 3308224258029322869,.int .u64 5365058923640841347,.int .u64 6679025012923562964,.int .u64 8573033837759648693,.int .u64 10970295158949994411,.int .u64 12119686244451234320,.int .u64 12683024718118986047,.int .u64 13788192230050041572,.int .u64 14330467153632333762,.int .u64 15395433587784984357,.int .u64 489312712824947311,.int .u64 1452737877330783856,.int .u64 2861767655752347644,.int .u64 3322285676063803686,.int .u64 5560940570517711597,.int .u64 5996557281743188959,.int .u64 7280758554555802590,.int .u64 8532644243296465576,.int .u64 9350256976987008742,.int .u64 10552545826968843579,.int .u64 11727347734174303076,.int .u64 12113106623233404929,.int .u64 14000437183269869457,.int .u64 14369950271660146224,.int .u64 15101387698204529176,.int .u64 15463397548674623760,.int .u64 17586052441742319658,.int .u64 1182934255886127544,.int .u64 1847814050463011016,.int .u64 2177327727835720531,.int .u64 2830643537854262169,.int .u64 3796741975233480872,.int .u64 4115178125766777443,.int .u64 5681478168544905931,.int .u64 6601373596472566643,.int .u64 7507060721942968483,.int .u64 8399075790359081724,.int .u64 8693463985226723168,.int .u64 9568029438360202098,.int .u64 10144078919501101548,.int .u64 10430055236837252648,.int .u64 11840083180663258601,.int .u64 13761210420658862357,.int .u64 14299343276471374635,.int .u64 14566680578165727644,.int .u64 15097957966210449927,.int .u64 16922976911328602910,.int .u64 17689382322260857208,.int .u64 500013540394364858,.int .u64 748580250866718886,.int .u64 1242879168328830382,.int .u64 1977374033974150939,.int .u64 2944078676154940804,.int .u64 3659926193048069267,.int .u64 4368137639120453308,.int .u64 4836135668995329356,.int .u64 5532061633213252278,.int .u64 6448918945643986474,.int .u64 6902733635092675308,.int .u64 7801388544844847127]:Array Value).all (fun v=>v.oneCell')=true)) (q1:(0≤(n:Int)∧(n:Int)<((80:Nat):Int))) (q2:(((#[.int .u64 4794697086780616226,.int .u64 8158064640168781261,.int .u64 13096744586834688815,.int .u64 16840607885511220156,.int .u64 4131703408338449720,.int .u64 6480981068601479193,.int .u64 10538285296894168987,.int .u64 12329834152419229976,.int .u64 15566598209576043074,.int .u64 1334009975649890238,.int .u64 2608012711638119052,.int .u64 6128411473006802146,.int .u64 8268148722764581231,.int .u64 9286055187155687089,.int .u64 11230858885718282805,.int .u64 13951009754708518548,.int .u64 16472876342353939154,.int .u64 17275323862435702243,.int .u64 1135362057144423861,.int .u64 2597628984639134821,.int .u64 3308224258029322869,.int .u64 5365058923640841347,.int .u64 6679025012923562964,.int .u64 8573033837759648693,.int .u64 10970295158949994411,.int .u64 12119686244451234320,.int .u64 12683024718118986047,.int .u64 13788192230050041572,.int .u64 14330467153632333762,.int .u64 15395433587784984357,.int .u64 489312712824947311,.int .u64 1452737877330783856,.int .u64 2861767655752347644,.int .u64 3322285676063803686,.int .u64 5560940570517711597,.int .u64 5996557281743188959,.int .u64 7280758554555802590,.int .u64 8532644243296465576,.int .u64 9350256976987008742,.int .u64 10552545826968843579,.int .u64 11727347734174303076,.int .u64 12113106623233404929,.int .u64 14000437183269869457,.int .u64 14369950271660146224,.int .u64 15101387698204529176,.int .u64 15463397548674623760,.int .u64 17586052441742319658,.int .u64 1182934255886127544,.int .u64 1847814050463011016,.int .u64 2177327727835720531,.int .u64 2830643537854262169,.int .u64 3796741975233480872,.int .u64 4115178125766777443,.int .u64 5681478168544905931,.int .u64 6601373596472566643,.int .u64 7507060721942968483,.int .u64 8399075790359081724,.int .u64 8693463985226723168,.int .u64 9568029438360202098,.int .u64 10144078919501101548,.int .u64 10430055236837252648,.int .u64 11840083180663258601,.int .u64 13761210420658862357,.int .u64 14299343276471374635,.int .u64 14566680578165727644,.int .u64 15097957966210449927,.int .u64 16922976911328602910,.int .u64 17689382322260857208,.int .u64 500013540394364858,.int .u64 748580250866718886,.int .u64 1242879168328830382,.int .u64 1977374033974150939,.int .u64 2944078676154940804,.int .u64 3659926193048069267,.int .u64 4368137639120453308,.int .u64 4836135668995329356,.int .u64 5532061633213252278,.int .u64 6448918945643986474,.int .u64 6902733635092675308,.int .u64 7801388544844847127]:Array Value)[(0+Int.toNat (n:Int)*1)]? =some (.int .u64 (kL5.getD n 0)))∧(kL5.getD n 0)=(kL5.getD n 0)))  {c0:Prop} {ch0:List (Option Value)}:Runs Tryd.prog (cAt [] (bdy Tryd.f14)) ⟨k80_a n,[],c0,ch0⟩ (fun e s=>e= .ret∧∃ c ch,s=⟨k80_b n,[((#[.int .u64 4794697086780616226,.int .u64 8158064640168781261,.int .u64 13096744586834688815,.int .u64 16840607885511220156,.int .u64 4131703408338449720,.int .u64 6480981068601479193,.int .u64 10538285296894168987,.int .u64 12329834152419229976,.int .u64 15566598209576043074,.int .u64 1334009975649890238,.int .u64 2608012711638119052,.int .u64 6128411473006802146,.int .u64 8268148722764581231,.int .u64 9286055187155687089,.int .u64 11230858885718282805,.int .u64 13951009754708518548,.int .u64 16472876342353939154,.int .u64 17275323862435702243,.int .u64 1135362057144423861,.int .u64 2597628984639134821,.int .u64 3308224258029322869,.int .u64 5365058923640841347,.int .u64 6679025012923562964,.int .u64 8573033837759648693,.int .u64 10970295158949994411,.int .u64 12119686244451234320,.int .u64 12683024718118986047,.int .u64 13788192230050041572,.int .u64 14330467153632333762,.int .u64 15395433587784984357,.int .u64 489312712824947311,.int .u64 1452737877330783856,.int .u64 2861767655752347644,.int .u64 3322285676063803686,.int .u64 5560940570517711597,.int .u64 5996557281743188959,.int .u64 7280758554555802590,.int .u64 8532644243296465576,.int .u64 9350256976987008742,.int .u64 10552545826968843579,.int .u64 11727347734174303076,.int .u64 12113106623233404929,.int .u64 14000437183269869457,.int .u64 14369950271660146224,.int .u64 15101387698204529176,.int .u64 15463397548674623760,.int .u64 17586052441742319658,.int .u64 1182934255886127544,.int .u64 1847814050463011016,.int .u64 2177327727835720531,.int .u64 2830643537854262169,.int .u64 3796741975233480872,.int .u64 4115178125766777443,.int .u64 5681478168544905931,.int .u64 6601373596472566643,.int .u64 7507060721942968483,.int .u64 8399075790359081724,.int .u64 8693463985226723168,.int .u64 9568029438360202098,.int .u64 10144078919501101548,.int .u64 10430055236837252648,.int .u64 11840083180663258601,.int .u64 13761210420658862357,.int .u64 14299343276471374635,.int .u64 14566680578165727644,.int .u64 15097957966210449927,.int .u64 16922976911328602910,.int .u64 17689382322260857208,.int .u64 500013540394364858,.int .u64 748580250866718886,.int .u64 1242879168328830382,.int .u64 1977374033974150939,.int .u64 2944078676154940804,.int .u64 3659926193048069267,.int .u64 4368137639120453308,.int .u64 4836135668995329356,.int .u64 5532061633213252278,.int .u64 6448918945643986474,.int .u64 6902733635092675308,.int .u64 7801388544844847127]:Array Value),(55,(0,0)))],c,ch⟩):=by
  refine(runs_ev mixed [some (.int .u64 (kL5.getD n 0))] (k80_0 n ) ⟨⟨⟨⟨⟨⟨⟨trivial,trivial⟩,trivial⟩,q0⟩,trivial⟩,q1⟩,q2⟩,trivial⟩).mono ?_
  rintro e s ⟨rfl,rfl⟩
  exact⟨rfl,_,_,rfl⟩
def k8_h (i:Nat):Hn:=⟨0,[],[],[],[]⟩
def k8_a (n:Nat):List Value:= [.int .i64 (n:Int),undef,undef,undef,undef,undef,undef,undef]
def k8_b (n:Nat):List Value:= [.int .i64 (n:Int),undef,.int .u64 (bg5.getD n 0),.pointer (some ⟨0,0,none⟩),.agg (#[.int .u64 7640891576956012808,.int .u64 13503953896175478587,.int .u64 4354685564936845355,.int .u64 11912009170470909681,.int .u64 5840696475078001361,.int .u64 11170449401992604703,.int .u64 2270897969802886507,.int .u64 6620516959819538809]:Array Value),.int .i64 (n:Int),.pointer (some ⟨0,0+Int.toNat (n:Int)*1,none⟩),.int .u64 (bg5.getD n 0)]
theorem k8_0 (n:Nat):evC (yty.en tabS10) k8_h (cAt [] (bdy Tryd.f18)) ⟨k8_a n,[],True,[some (.int .u64 (bg5.getD n 0))]⟩=some (.ret,⟨k8_b n,[((#[.int .u64 7640891576956012808,.int .u64 13503953896175478587,.int .u64 4354685564936845355,.int .u64 11912009170470909681,.int .u64 5840696475078001361,.int .u64 11170449401992604703,.int .u64 2270897969802886507,.int .u64 6620516959819538809]:Array Value),(50,(0,0)))],(((((((True∧True)∧True)∧((#[.int .u64 7640891576956012808,.int .u64 13503953896175478587,.int .u64 4354685564936845355,.int .u64 11912009170470909681,.int .u64 5840696475078001361,.int .u64 11170449401992604703,.int .u64 2270897969802886507,.int .u64 6620516959819538809]:Array Value).all (fun v=>v.oneCell')=true))∧True)∧(0≤(n:Int)∧(n:Int)<((8:Nat):Int)))∧(((#[.int .u64 7640891576956012808,.int .u64 13503953896175478587,.int .u64 4354685564936845355,.int .u64 11912009170470909681,.int .u64 5840696475078001361,.int .u64 11170449401992604703,.int .u64 2270897969802886507,.int .u64 6620516959819538809]:Array Value)[(0+Int.toNat (n:Int)*1)]? =some (.int .u64 (bg5.getD n 0)))∧(bg5.getD n 0)=(bg5.getD n 0)))∧True),[]⟩):=by kernel_rfl
theorem k8_r (n:Nat)   (q0:((#[.int .u64 7640891576956012808,.int .u64 13503953896175478587,.int .u64 4354685564936845355,.int .u64 11912009170470909681,.int .u64 5840696475078001361,.int .u64 11170449401992604703,.int .u64 2270897969802886507,.int .u64 6620516959819538809]:Array Value).all (fun v=>v.oneCell')=true)) (q1:(0≤(n:Int)∧(n:Int)<((8:Nat):Int))) (q2:(((#[.int .u64 7640891576956012808,.int .u64 13503953896175478587,.int .u64 4354685564936845355,.int .u64 11912009170470909681,.int .u64 5840696475078001361,.int .u64 11170449401992604703,.int .u64 2270897969802886507,.int .u64 6620516959819538809]:Array Value)[(0+Int.toNat (n:Int)*1)]? =some (.int .u64 (bg5.getD n 0)))∧(bg5.getD n 0)=(bg5.getD n 0)))  {c0:Prop} {ch0:List (Option Value)}:Runs Tryd.prog (cAt [] (bdy Tryd.f18)) ⟨k8_a n,[],c0,ch0⟩ (fun e s=>e= .ret∧∃ c ch,s=⟨k8_b n,[((#[.int .u64 7640891576956012808,.int .u64 13503953896175478587,.int .u64 4354685564936845355,.int .u64 11912009170470909681,.int .u64 5840696475078001361,.int .u64 11170449401992604703,.int .u64 2270897969802886507,.int .u64 6620516959819538809]:Array Value),(50,(0,0)))],c,ch⟩):=by
  refine(runs_ev mixed [some (.int .u64 (bg5.getD n 0))] (k8_0 n ) ⟨⟨⟨⟨⟨⟨⟨trivial,trivial⟩,trivial⟩,q0⟩,trivial⟩,q1⟩,q2⟩,trivial⟩).mono ?_
  rintro e s ⟨rfl,rfl⟩
  exact⟨rfl,_,_,rfl⟩
def isL (a:Nat):Nat→Nat→Bool→Bool
  |0,_,b=>b
  |f+1,d,b=>if d*d≤a then isL a f (d+1) (b && !decide (((a%d:Nat):Int)=0)) else b
theorem isL_end {a f d:Nat} {b:Bool} (h:¬ d*d≤a):isL a f d b=b:=by
  cases f with
  |zero=>rfl
  |succ f=>rw[isL,if_neg h]
def isP (a:Nat):Bool:=isL a (a - 1) 2 true
def prS (n a d:Nat) (b:Bool) (j:Nat→Value):List Value:=match b with
  |true=>prT1_a n a d j
  |false=>prF1_a n a d j
theorem pr_in (n a : Nat) (ha : a < 100000) (ha2 : 2 ≤ a) (j0 : Nat → Value) {c0 : Prop} {ch0 : List (Option Value)} : Runs Tryd.prog (.loop (cAt [1, 1, 0, 0, 0, 1, 0, 1, 0, 0] (bdy Tryd.f13))) ⟨prT1_a n a 2 j0, [], c0, ch0⟩ (fun e s => e = .exit 2 ∧ ∃ d j c ch, s = ⟨prS n a d (isP a) j, [], c, ch⟩) := by
  refine runs_loop (fun M s=>∃ d b j c ch,M=a+1 - d∧2≤d∧d≤a+1∧isL a (a+1 - d) d b=isP a∧s=⟨prS n a d b j,[],c,ch⟩) (a+1 - 2) ⟨2,true,j0,c0,ch0,rfl,by omega,by omega,by rw[isP,show a+1 - 2=a - 1 by omega],rfl⟩ ?_
  rintro M s ⟨d,b,j,c,ch,rfl,h2,hd,hI,rfl⟩
  have hdd:d*d≤100001*100001:=Nat.mul_le_mul (by omega) (by omega)
  have q0:True∧(IntKind.i64.wrap ((d:Int)*(d:Int)))=((d*d:Nat):Int):=⟨trivial,by
    rw[← Int.natCast_mul]
    exact wi (by omega) (by omega)⟩
  have q2:True∧(IntKind.i64.wrap ((d:Int)+1))=((d+1:Nat):Int):=⟨trivial,by rw[wi (by omega) (by omega)];omega⟩
  by_cases h:d*d≤a
  · have hle : d ≤ a := Nat.le_trans (Nat.le_mul_of_pos_left d (by omega)) h
    have hI2:isL a (a+1 - (d+1)) (d+1) (b && !decide (((a%d:Nat):Int)=0))=isP a:=by
      rw[← hI,show a+1 - d=(a+1 - (d+1))+1 by omega,isL,if_pos h]
    have hh:decide (((d*d:Nat):Int)≤(a:Int))=true:=decide_eq_true (by omega)
    cases b with
    | true =>
      have q1:(((d:Int):Int)≠0)∧(Int.tmod (a:Int) (d:Int))=((a%d:Nat):Int):=⟨by omega,by rw[Int.tmod_eq_emod_of_nonneg (by omega)];omega⟩
      cases hb:(!decide (((a%d:Nat):Int)=0)) with
      | true =>
        refine(prT1_r n a d j q0 q1 q2 hh hb).mono ?_
        rintro e s ⟨rfl,c,ch,hs⟩
        rw[hb] at hI2
        refine .inl ⟨rfl,a+1 - (d+1),by omega,d+1,true,fun q=>s.tm.getD q undef,c,ch,rfl,by omega,by omega,hI2,?_⟩
        subst hs
        rfl
      | false =>
        refine(prT0_r n a d j q0 q1 q2 hh hb).mono ?_
        rintro e s ⟨rfl,c,ch,hs⟩
        rw[hb] at hI2
        refine .inl ⟨rfl,a+1 - (d+1),by omega,d+1,false,fun q=>s.tm.getD q undef,c,ch,rfl,by omega,by omega,hI2,?_⟩
        subst hs
        rfl
    | false =>
      refine(prF1_r n a d j q0 q2 hh).mono ?_
      rintro e s ⟨rfl,c,ch,hs⟩
      rw[Bool.false_and] at hI2
      refine .inl ⟨rfl,a+1 - (d+1),by omega,d+1,false,fun q=>s.tm.getD q undef,c,ch,rfl,by omega,by omega,hI2,?_⟩
      subst hs
      rfl
  · rw [isL_end h] at hI
    have hh:decide (((d*d:Nat):Int)≤(a:Int))=false:=decide_eq_false (by omega)
    rw[← hI]
    cases b with
    | true =>
      refine(prTX_r n a d j q0 hh).mono ?_
      rintro e s ⟨rfl,c,ch,hs⟩
      refine .inr ⟨by simp,rfl,d,fun q=>s.tm.getD q undef,c,ch,?_⟩
      subst hs
      rfl
    | false =>
      refine(prFX_r n a d j q0 hh).mono ?_
      rintro e s ⟨rfl,c,ch,hs⟩
      refine .inr ⟨by simp,rfl,d,fun q=>s.tm.getD q undef,c,ch,?_⟩
      subst hs
      rfl
def prmF:Nat→Nat→Nat→Option Nat
  |0,_,_=>none
  |f+1,a,n=>if isP a then(if n=0 then some a else prmF f (a+1) (n - 1)) else prmF f (a+1) n
theorem pr_bshape:cAt [1,1,0,0] (bdy Tryd.f13)= .block 1 (.seq (cAt [1,1,0,0,0,0] (bdy Tryd.f13)) (.seq (.seq (cAt [1,1,0,0,0,1,0,0] (bdy Tryd.f13)) (.block 2 (.loop (cAt [1,1,0,0,0,1,0,1,0,0] (bdy Tryd.f13))))) (cAt [1,1,0,0,0,1,1] (bdy Tryd.f13)))):=by kernel_rfl
theorem pr_shape:(bdy Tryd.f13)= .seq (cAt [0] (bdy Tryd.f13)) (.seq (cAt [1,0] (bdy Tryd.f13)) (.block 0 (.loop (cAt [1,1,0,0] (bdy Tryd.f13))))):=by kernel_rfl
theorem pr_out (F p : Nat) (hF : F ≤ 1000) (n0 : Nat) (hn0 : n0 < 1000) (h0 : prmF F 2 n0 = some p) (j0 : Nat → Value) {c0 : Prop} {ch0 : List (Option Value)} : Runs Tryd.prog (.loop (cAt [1, 1, 0, 0] (bdy Tryd.f13))) ⟨prC_a n0 2 j0, [], c0, ch0⟩ (fun e s => e = .ret ∧ resS (yty.en tabS10) s Tryd.f13.results.toList = some [.int .i64 (p : Int)]) := by
  refine runs_loop (fun M s=>∃ a n j c ch,2≤a∧a+M≤2+F∧n<1000∧prmF M a n=some p∧s=⟨prC_a n a j,[],c,ch⟩) F ⟨2,n0,j0,c0,ch0,by omega,by omega,hn0,h0,rfl⟩ ?_
  rintro M s ⟨a,n,j,c,ch,h2,hM,hn,hp,rfl⟩
  cases M with
  |zero=>cases hp
  | succ M =>
    rw[pr_bshape]
    rw[prmF] at hp
    refine runs_block (K1:=fun e s=>(e= .normal∧∃ m,m<M+1∧∃ a n j c ch,2≤a∧a+m≤2+F∧n<1000∧prmF m a n=some p∧s=⟨prC_a n a j,[],c,ch⟩)∨(e= .ret∧resS (yty.en tabS10) s Tryd.f13.results.toList=some [.int .i64 (p:Int)])) ?_ (fun e s h=> ?_)
    · refine runs_seq (prC_r n a j) (fun s h => ?_) (fun e s hne h => absurd h.1 hne)
      obtain⟨_,c,ch,hs⟩:=h
      have hs':s=⟨prD_a n a (fun q=>s.tm.getD q undef),[],c,ch⟩:=by subst hs;rfl
      rw[hs']
      refine runs_seq (K1:=fun e s=>e= .normal∧∃ d j c ch,s=⟨prS n a d (isP a) j,[],c,ch⟩) ?_ (fun s h=> ?_) (fun e s hne h=>absurd h.1 hne)
      · refine runs_seq (prD_r n a _) (fun s h => ?_) (fun e s hne h => absurd h.1 hne)
        obtain⟨_,c,ch,hs⟩:=h
        have hs':s=⟨prT1_a n a 2 (fun q=>s.tm.getD q undef),[],c,ch⟩:=by subst hs;rfl
        rw[hs']
        refine runs_block (pr_in n a (by omega) h2 _) ?_
        rintro e s ⟨rfl,h⟩
        exact .inl ⟨rfl,rfl,h⟩
      · obtain ⟨_, d, j, c, ch, rfl⟩ := h
        have qa:True∧(IntKind.i64.wrap ((a:Int)+1))=((a+1:Nat):Int):=⟨trivial,by rw[wi (by omega) (by omega)];omega⟩
        cases hi:isP a with
        | false =>
          rw[hi,if_neg (by decide)] at hp
          have hs0:prS n a d false j=prN_a n a (fun q=>(prS n a d false j).getD q undef):=rfl
          rw[hs0]
          refine(prN_r n a _ qa).mono ?_
          rintro e s ⟨rfl,c,ch,hs⟩
          refine .inl ⟨rfl,M,by omega,a+1,n,fun q=>s.tm.getD q undef,c,ch,by omega,by omega,hn,hp,?_⟩
          subst hs
          rfl
        | true =>
          rw[hi,if_pos rfl] at hp
          by_cases hz:n=0
          · subst hz
            rw[if_pos rfl] at hp
            obtain rfl:=Option.some.inj hp
            have hs0:prS 0 a d true j=prR_a 0 a (fun q=>(prS 0 a d true j).getD q undef):=rfl
            rw[hs0]
            refine(prR_r 0 a _ (decide_eq_true rfl)).mono ?_
            rintro e s ⟨rfl,c,ch,hs⟩
            refine .inr ⟨rfl,?_⟩
            subst hs
            kernel_rfl
          · rw [if_neg hz] at hp
            have hs0:prS n a d true j=prM_a n a (fun q=>(prS n a d true j).getD q undef):=rfl
            rw[hs0]
            refine(prM_r n a _ ⟨trivial,by rw[wi (by omega) (by omega)];omega⟩ qa (decide_eq_false (by omega))).mono ?_
            rintro e s ⟨rfl,c,ch,hs⟩
            refine .inl ⟨rfl,M,by omega,a+1,n - 1,fun q=>s.tm.getD q undef,c,ch,by omega,by omega,by omega,hp,?_⟩
            subst hs
            rfl
    · rcases h with ⟨rfl, m, hm, hx⟩ | ⟨rfl, h⟩
      · exact .inr (.inl ⟨rfl,.inl ⟨rfl,m,hm,hx⟩⟩)
      · exact .inr (.inr ⟨rfl,.inr ⟨by simp,rfl,h⟩⟩)
theorem Prime_c (n p:Nat) (hn:n<1000) (h:prmF 1000 2 n=some p):Pure Tryd.prog 13 #[.int .i64 (n:Int)] (.int .i64 (p:Int)):=by
  refine pure_runs (E:=yty.en tabS10) Tryd.func13 (c:=(bdy Tryd.f13)) (by kernel_rfl) (args:= [.int .i64 (n:Int)]) rfl (K:=fun e s=>e= .ret∧resS (yty.en tabS10) s Tryd.f13.results.toList=some [.int .i64 (p:Int)]) ?_ (fun e s h=>⟨h.1,_,h.2,rfl⟩)
  rw[pr_shape]
  refine runs_seq (prA_r n) (fun s h=> ?_) (fun e s hne h=>absurd h.1 hne)
  obtain⟨_,c,ch,rfl⟩:=h
  refine runs_seq (prB_r n) (fun s h=> ?_) (fun e s hne h=>absurd h.1 hne)
  obtain⟨_,c,ch,hs⟩:=h
  have hs':s=⟨prC_a n 2 (fun q=>s.tm.getD q undef),[],c,ch⟩:=by subst hs;rfl
  rw[hs']
  refine runs_block (pr_out 1000 p (by omega) n hn h _) ?_
  rintro e s ⟨rfl,h⟩
  exact .inr (.inr ⟨rfl,rfl,h⟩)
theorem k80_eq:(#[.int .u64 4794697086780616226,.int .u64 8158064640168781261,.int .u64 13096744586834688815,.int .u64 16840607885511220156,.int .u64 4131703408338449720,.int .u64 6480981068601479193,.int .u64 10538285296894168987,.int .u64 12329834152419229976,.int .u64 15566598209576043074,.int .u64 1334009975649890238,.int .u64 2608012711638119052,.int .u64 6128411473006802146,.int .u64 8268148722764581231,.int .u64 9286055187155687089,.int .u64 11230858885718282805,.int .u64 13951009754708518548,.int .u64 16472876342353939154,.int .u64 17275323862435702243,.int .u64 1135362057144423861,.int .u64 2597628984639134821,.int .u64 3308224258029322869,.int .u64 5365058923640841347,.int .u64 6679025012923562964,.int .u64 8573033837759648693,.int .u64 10970295158949994411,.int .u64 12119686244451234320,.int .u64 12683024718118986047,.int .u64 13788192230050041572,.int .u64 14330467153632333762,.int .u64 15395433587784984357,.int .u64 489312712824947311,.int .u64 1452737877330783856,.int .u64 2861767655752347644,.int .u64 3322285676063803686,.int .u64 5560940570517711597,.int .u64 5996557281743188959,.int .u64 7280758554555802590,.int .u64 8532644243296465576,.int .u64 9350256976987008742,.int .u64 10552545826968843579,.int .u64 11727347734174303076,.int .u64 12113106623233404929,.int .u64 14000437183269869457,.int .u64 14369950271660146224,.int .u64 15101387698204529176,.int .u64 15463397548674623760,.int .u64 17586052441742319658,.int .u64 1182934255886127544,.int .u64 1847814050463011016,.int .u64 2177327727835720531,.int .u64 2830643537854262169,.int .u64 3796741975233480872,.int .u64 4115178125766777443,.int .u64 5681478168544905931,.int .u64 6601373596472566643,.int .u64 7507060721942968483,.int .u64 8399075790359081724,.int .u64 8693463985226723168,.int .u64 9568029438360202098,.int .u64 10144078919501101548,.int .u64 10430055236837252648,.int .u64 11840083180663258601,.int .u64 13761210420658862357,.int .u64 14299343276471374635,.int .u64 14566680578165727644,.int .u64 15097957966210449927,.int .u64 16922976911328602910,.int .u64 17689382322260857208,.int .u64 500013540394364858,.int .u64 748580250866718886,.int .u64 1242879168328830382,.int .u64 1977374033974150939,.int .u64 2944078676154940804,.int .u64 3659926193048069267,.int .u64 4368137639120453308,.int .u64 4836135668995329356,.int .u64 5532061633213252278,.int .u64 6448918945643986474,.int .u64 6902733635092675308,.int .u64 7801388544844847127]:Array Value)=wA .u64 80 kL5:=by kernel_rfl
theorem k8_eq:(#[.int .u64 7640891576956012808,.int .u64 13503953896175478587,.int .u64 4354685564936845355,.int .u64 11912009170470909681,.int .u64 5840696475078001361,.int .u64 11170449401992604703,.int .u64 2270897969802886507,.int .u64 6620516959819538809]:Array Value)=wA .u64 8 bg5:=by kernel_rfl
theorem Const_c (n:Nat) (hn:n<80):Pure Tryd.prog 14 #[.int .i64 (n:Int)] (.int .u64 (kL5.getD n 0)):=by
  refine pure_runs (E:=yty.en tabS10) Tryd.func14 (c:=bdy Tryd.f14) (by kernel_rfl) (args:= [.int .i64 (n:Int)]) rfl (K:=fun e s=>e= .ret∧resS (yty.en tabS10) s Tryd.f14.results.toList=some [.int .u64 (kL5.getD n 0)]) ?_ (fun e s h=>⟨h.1,_,h.2,rfl⟩)
  refine(k80_r n (by rw[k80_eq];exact wA_one _ _ _) ⟨by omega,by omega⟩ ⟨by rw[k80_eq];exact wA_get (by omega) (by omega),rfl⟩).mono ?_
  rintro e s ⟨rfl,c,ch,hs⟩
  subst hs
  generalize kL5.getD n 0=x
  exact⟨rfl,by kernel_rfl⟩
theorem Begs_c (n:Nat) (hn:n<8):Pure Tryd.prog 18 #[.int .i64 (n:Int)] (.int .u64 (bg5.getD n 0)):=by
  refine pure_runs (E:=yty.en tabS10) Tryd.func18 (c:=bdy Tryd.f18) (by kernel_rfl) (args:= [.int .i64 (n:Int)]) rfl (K:=fun e s=>e= .ret∧resS (yty.en tabS10) s Tryd.f18.results.toList=some [.int .u64 (bg5.getD n 0)]) ?_ (fun e s h=>⟨h.1,_,h.2,rfl⟩)
  refine(k8_r n (by rw[k8_eq];exact wA_one _ _ _) ⟨by omega,by omega⟩ ⟨by rw[k8_eq];exact wA_get (by omega) (by omega),rfl⟩).mono ?_
  rintro e s ⟨rfl,c,ch,hs⟩
  subst hs
  generalize bg5.getD n 0=x
  exact⟨rfl,by kernel_rfl⟩
end Go.Proofs.YtpmkojinhebihaaDoor
