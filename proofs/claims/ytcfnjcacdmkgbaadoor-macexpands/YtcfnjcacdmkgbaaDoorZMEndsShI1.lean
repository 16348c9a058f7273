import Derived.Test.YtcfnjcacdmkgbaaDoorZMEndsShG1
set_option linter.unusedSimpArgs false
set_option linter.unusedVariables false
/-! The sum of a text: pieces. -/
namespace Go.Proofs.YtcfnjcacdmkgbaaDoor
open Go.RowKit Go.Ev
variable {c0:Prop} {ch0:List (Option Value)}
def su2A_h (i:Nat):Hn:=if i=5 then⟨4,[],[],[],[]⟩ else if i=9 then⟨4,[],[],[],[]⟩ else⟨0,[],[],[],[]⟩
def su2A_a (a:Array Value) (g0 g1 t:Tq) (o l cp:Nat):List Value:= [.slice (some ⟨2,o,none⟩) l cp,undef,undef,undef,undef,undef,undef,undef,undef,undef,undef,undef,undef,undef,undef,undef,undef,undef,undef,undef,undef,undef,undef,undef,undef,undef,undef,undef,undef,undef]
def su2A_b (a:Array Value) (g0 g1 t:Tq) (o l cp:Nat):List Value:= [.slice (some ⟨2,o,none⟩) l cp,undef,.pointer (some ⟨3,0,none⟩),undef,undef,undef,undef,undef,undef,undef,undef,undef,undef,undef,undef,undef,undef,undef,undef,undef,undef,undef,undef,undef,undef,undef,undef,undef,undef,undef]
theorem su2A_0 (a:Array Value) (g0 g1 t:Tq) (o l cp:Nat):evC (yty.enm tabS7 [mEnd] 2000003) su2A_h (cAt [0] (bdy Tryd.f11)) ⟨su2A_a a g0 g1 t o l cp,[((wA .u32 64 kL2),g0),((wA .u64 80 kL5),g1),(a,t)],True,[]⟩=some (.normal,⟨su2A_b a g0 g1 t o l cp,[((wA .u32 64 kL2),g0),((wA .u64 80 kL5),g1),(a,t),((wA .u8 32 []),(25,(0,0)))],True,[]⟩):=by kernel_rfl
theorem su2A_r (a:Array Value) (g0 g1 t:Tq) (o l cp:Nat)    :Runs Tryd.prog (cAt [0] (bdy Tryd.f11)) ⟨su2A_a a g0 g1 t o l cp,[((wA .u32 64 kL2),g0),((wA .u64 80 kL5),g1),(a,t)],c0,ch0⟩ (fun e s=>e= .normal∧∃ c ch,s=⟨su2A_b a g0 g1 t o l cp,[((wA .u32 64 kL2),g0),((wA .u64 80 kL5),g1),(a,t),((wA .u8 32 []),(25,(0,0)))],c,ch⟩) 2000003:=by
  refine(runs_ev mixed [] (su2A_0 a g0 g1 t o l cp ) trivial).mono ?_
  rintro e s ⟨rfl,rfl⟩
  exact⟨rfl,_,_,rfl⟩
def su2B_h (i:Nat):Hn:=if i=5 then⟨4,[],[],[],[]⟩ else if i=9 then⟨4,[],[],[],[]⟩ else⟨0,[],[],[],[]⟩
def su2B_a (a:Array Value) (g0 g1 t:Tq) (o l cp:Nat):List Value:= [.slice (some ⟨2,o,none⟩) l cp,undef,.pointer (some ⟨3,0,none⟩),undef,undef,undef,undef,undef,undef,undef,undef,undef,undef,undef,undef,undef,undef,undef,undef,undef,undef,undef,undef,undef,undef,undef,undef,undef,undef,undef]
def su2B_b (a:Array Value) (g0 g1 t:Tq) (o l cp:Nat):List Value:= [.slice (some ⟨2,o,none⟩) l cp,undef,.pointer (some ⟨3,0,none⟩),.pointer (some ⟨4,0,none⟩),undef,undef,.agg (wA .u32 8 bg2),undef,undef,undef,undef,undef,undef,undef,undef,undef,undef,undef,undef,undef,undef,undef,undef,undef,undef,undef,undef,undef,undef,undef]
theorem su2B_0 (a:Array Value) (g0 g1 t:Tq) (o l cp:Nat):evC (yty.enm tabS7 [mEnd] 2000003) su2B_h (cAt [1,0] (bdy Tryd.f11)) ⟨su2B_a a g0 g1 t o l cp,[((wA .u32 64 kL2),g0),((wA .u64 80 kL5),g1),(a,t),((wA .u8 32 []),(25,(0,0)))],True,[]⟩=some (.normal,⟨su2B_b a g0 g1 t o l cp,[((wA .u32 64 kL2),g0),((wA .u64 80 kL5),g1),(a,t),((wA .u8 32 []),(25,(0,0))),((wA .u32 8 bg2),(42,(0,0)))],((True∧True)∧((wA .u32 8 bg2).all (fun v=>v.oneCell')=true)),[]⟩):=by kernel_rfl
theorem su2B_r (a:Array Value) (g0 g1 t:Tq) (o l cp:Nat)   (q0:((wA .u32 8 bg2).all (fun v=>v.oneCell')=true))  :Runs Tryd.prog (cAt [1,0] (bdy Tryd.f11)) ⟨su2B_a a g0 g1 t o l cp,[((wA .u32 64 kL2),g0),((wA .u64 80 kL5),g1),(a,t),((wA .u8 32 []),(25,(0,0)))],c0,ch0⟩ (fun e s=>e= .normal∧∃ c ch,s=⟨su2B_b a g0 g1 t o l cp,[((wA .u32 64 kL2),g0),((wA .u64 80 kL5),g1),(a,t),((wA .u8 32 []),(25,(0,0))),((wA .u32 8 bg2),(42,(0,0)))],c,ch⟩) 2000003:=by
  refine(runs_ev mixed [] (su2B_0 a g0 g1 t o l cp ) ⟨(tt1 trivial),q0⟩).mono ?_
  rintro e s ⟨rfl,rfl⟩
  exact⟨rfl,_,_,rfl⟩
def su2C_h (i:Nat):Hn:=if i=5 then⟨4,[],[],[],[]⟩ else if i=9 then⟨4,[],[],[],[]⟩ else⟨0,[],[],[],[]⟩
def su2C_a (a:Array Value) (g0 g1 t:Tq) (o l cp:Nat):List Value:= [.slice (some ⟨2,o,none⟩) l cp,undef,.pointer (some ⟨3,0,none⟩),.pointer (some ⟨4,0,none⟩),undef,undef,.agg (wA .u32 8 bg2),undef,undef,undef,undef,undef,undef,undef,undef,undef,undef,undef,undef,undef,undef,undef,undef,undef,undef,undef,undef,undef,undef,undef]
def su2C_b (a:Array Value) (g0 g1 t:Tq) (o l cp:Nat):List Value:= [.slice (some ⟨2,o,none⟩) l cp,undef,.pointer (some ⟨3,0,none⟩),.pointer (some ⟨4,0,none⟩),.slice (some ⟨2,o,none⟩) l cp,undef,.agg (wA .u32 8 bg2),.slice (some ⟨2,o,none⟩) l cp,undef,undef,undef,undef,undef,undef,undef,undef,undef,undef,undef,undef,undef,undef,undef,undef,undef,undef,undef,undef,undef,undef]
theorem su2C_0 (a:Array Value) (g0 g1 t:Tq) (o l cp:Nat):evC (yty.enm tabS7 [mEnd] 2000003) su2C_h (cAt [1,1,0,0] (bdy Tryd.f11)) ⟨su2C_a a g0 g1 t o l cp,[((wA .u32 64 kL2),g0),((wA .u64 80 kL5),g1),(a,t),((wA .u8 32 []),(25,(0,0))),((wA .u32 8 bg2),(42,(0,0)))],True,[]⟩=some (.normal,⟨su2C_b a g0 g1 t o l cp,[((wA .u32 64 kL2),g0),((wA .u64 80 kL5),g1),(a,t),((wA .u8 32 []),(25,(0,0))),((wA .u32 8 bg2),(42,(0,0)))],((True∧True)∧True),[]⟩):=by kernel_rfl
theorem su2C_r (a:Array Value) (g0 g1 t:Tq) (o l cp:Nat)    :Runs Tryd.prog (cAt [1,1,0,0] (bdy Tryd.f11)) ⟨su2C_a a g0 g1 t o l cp,[((wA .u32 64 kL2),g0),((wA .u64 80 kL5),g1),(a,t),((wA .u8 32 []),(25,(0,0))),((wA .u32 8 bg2),(42,(0,0)))],c0,ch0⟩ (fun e s=>e= .normal∧∃ c ch,s=⟨su2C_b a g0 g1 t o l cp,[((wA .u32 64 kL2),g0),((wA .u64 80 kL5),g1),(a,t),((wA .u8 32 []),(25,(0,0))),((wA .u32 8 bg2),(42,(0,0)))],c,ch⟩) 2000003:=by
  refine(runs_ev mixed [] (su2C_0 a g0 g1 t o l cp ) (tt2 trivial)).mono ?_
  rintro e s ⟨rfl,rfl⟩
  exact⟨rfl,_,_,rfl⟩
def su2T_h (i:Nat):Hn:=if i=5 then⟨4,[],[],[],[]⟩ else if i=9 then⟨4,[],[],[],[]⟩ else⟨0,[],[],[],[]⟩
def su2T_a (a:Array Value) (g0 g1 t:Tq) (o l cp:Nat) (S:List Int) (p m q:Nat) (j:Nat→Value):List Value:= [.slice (some ⟨2,o,none⟩) l cp,j 1,.pointer (some ⟨3,0,none⟩),.pointer (some ⟨4,0,none⟩),.slice (some ⟨2,p,none⟩) m q,j 5,j 6,j 7,j 8,j 9,j 10,j 11,j 12,j 13,j 14,j 15,j 16,j 17,j 18,j 19,j 20,j 21,j 22,j 23,j 24,j 25,j 26,j 27,j 28,j 29]
def su2T_b (a:Array Value) (g0 g1 t:Tq) (o l cp:Nat) (S:List Int) (p m q:Nat) (j:Nat→Value):List Value:= [.slice (some ⟨2,o,none⟩) l cp,j 1,.pointer (some ⟨3,0,none⟩),.pointer (some ⟨4,0,none⟩),.slice (some ⟨2,(if q=64 then p else p+64*1),none⟩) (m - 64) (q - 64),j 5,j 6,j 7,.slice (some ⟨2,p,none⟩) m q,.int .i64 (m:Int),.bool true,.slice (some ⟨2,p,none⟩) m q,.slice (some ⟨2,(if q=64 then p else p+64*1),none⟩) (m - 64) (q - 64),.agg (wA .u32 8 S),.slice (some ⟨2,p,none⟩) m q,.slice (some ⟨2,(if q=0 then p else p+0*1),none⟩) 64 q,.agg (wA .u32 8 (bhd2 (dL (wA .u32 8 S)) (fun i=>wd2 a ((if q=0 then p else p+0*1)+4*i)))),j 17,j 18,j 19,j 20,j 21,j 22,j 23,j 24,j 25,j 26,j 27,j 28,j 29]
theorem su2T_0 (a:Array Value) (g0 g1 t:Tq) (o l cp:Nat) (S:List Int) (p m q:Nat) (j:Nat→Value):evC (yty.enm tabS7 [mEnd] 2000003) su2T_h (cAt [1,1,0,1,0,0] (bdy Tryd.f11)) ⟨su2T_a a g0 g1 t o l cp S p m q j,[((wA .u32 64 kL2),g0),((wA .u64 80 kL5),g1),(a,t),((wA .u8 32 []),(25,(0,0))),((wA .u32 8 S),(42,(0,0)))],True,[some (.bool true)]⟩=some (.normal,⟨su2T_b a g0 g1 t o l cp S p m q j,[((wA .u32 64 kL2),g0),((wA .u64 80 kL5),g1),(a,t),((wA .u8 32 []),(25,(0,0))),((wA .u32 8 (bhd2 (dL (wA .u32 8 S)) (fun i=>wd2 a ((if q=0 then p else p+0*1)+4*i)))),(42,(0,0)))],(((((((((((True∧True)∧True)∧(True∧(decide (64≤(m:Int)))=true))∧True)∧True)∧((True∧((0:Int)≤64))∧0≤64∧64≤q))∧((wA .u32 64 kL2)=wA .u32 64 kL2∧(wA .u64 80 kL5)=wA .u64 80 kL5∧(wA .u32 8 S)=wA .u32 8 (dL (wA .u32 8 S))∧bytesAt a (if q=0 then p else p+0*1) 64∧64≤64∧64≤q))∧((wA .u32 8 (bhd2 (dL (wA .u32 8 S)) (fun i=>wd2 a ((if q=0 then p else p+0*1)+4*i)))).all (fun v=>v.oneCell')=true))∧True)∧((((0:Int)≤64)∧True)∧64≤m∧m≤q))∧True),[]⟩):=by kernel_rfl
theorem su2T_r (a:Array Value) (g0 g1 t:Tq) (o l cp:Nat) (S:List Int) (p m q:Nat) (j:Nat→Value)  (q0:((True∧((0:Int)≤64))∧0≤64∧64≤q)) (q1:((wA .u32 64 kL2)=wA .u32 64 kL2∧(wA .u64 80 kL5)=wA .u64 80 kL5∧(wA .u32 8 S)=wA .u32 8 (dL (wA .u32 8 S))∧bytesAt a (if q=0 then p else p+0*1) 64∧64≤64∧64≤q)) (q2:((wA .u32 8 (bhd2 (dL (wA .u32 8 S)) (fun i=>wd2 a ((if q=0 then p else p+0*1)+4*i)))).all (fun v=>v.oneCell')=true)) (q3:((((0:Int)≤64)∧True)∧64≤m∧m≤q)) (h0:(decide (64≤(m:Int)))=true) :Runs Tryd.prog (cAt [1,1,0,1,0,0] (bdy Tryd.f11)) ⟨su2T_a a g0 g1 t o l cp S p m q j,[((wA .u32 64 kL2),g0),((wA .u64 80 kL5),g1),(a,t),((wA .u8 32 []),(25,(0,0))),((wA .u32 8 S),(42,(0,0)))],c0,ch0⟩ (fun e s=>e= .normal∧∃ c ch,s=⟨su2T_b a g0 g1 t o l cp S p m q j,[((wA .u32 64 kL2),g0),((wA .u64 80 kL5),g1),(a,t),((wA .u8 32 []),(25,(0,0))),((wA .u32 8 (bhd2 (dL (wA .u32 8 S)) (fun i=>wd2 a ((if q=0 then p else p+0*1)+4*i)))),(42,(0,0)))],c,ch⟩) 2000003:=by
  refine(runs_ev mixed [some (.bool true)] (su2T_0 a g0 g1 t o l cp S p m q j) (tt1 ⟨(tt1 ⟨⟨⟨(tt2 ⟨(tt2 trivial),⟨trivial,h0⟩⟩),q0⟩,q1⟩,q2⟩),q3⟩)).mono ?_
  rintro e s ⟨rfl,rfl⟩
  exact⟨rfl,_,_,rfl⟩
def su2X_h (i:Nat):Hn:=if i=5 then⟨4,[],[],[],[]⟩ else if i=9 then⟨4,[],[],[],[]⟩ else⟨0,[],[],[],[]⟩
def su2X_a (a:Array Value) (g0 g1 t:Tq) (o l cp:Nat) (S:List Int) (p m q:Nat) (j:Nat→Value):List Value:= [.slice (some ⟨2,o,none⟩) l cp,j 1,.pointer (some ⟨3,0,none⟩),.pointer (some ⟨4,0,none⟩),.slice (some ⟨2,p,none⟩) m q,j 5,j 6,j 7,j 8,j 9,j 10,j 11,j 12,j 13,j 14,j 15,j 16,j 17,j 18,j 19,j 20,j 21,j 22,j 23,j 24,j 25,j 26,j 27,j 28,j 29]
def su2X_b (a:Array Value) (g0 g1 t:Tq) (o l cp:Nat) (S:List Int) (p m q:Nat) (j:Nat→Value):List Value:= [.slice (some ⟨2,o,none⟩) l cp,j 1,.pointer (some ⟨3,0,none⟩),.pointer (some ⟨4,0,none⟩),.slice (some ⟨2,p,none⟩) m q,j 5,j 6,j 7,.slice (some ⟨2,p,none⟩) m q,.int .i64 (m:Int),.bool false,j 11,j 12,j 13,j 14,j 15,j 16,j 17,j 18,j 19,j 20,j 21,j 22,j 23,j 24,j 25,j 26,j 27,j 28,j 29]
theorem su2X_0 (a:Array Value) (g0 g1 t:Tq) (o l cp:Nat) (S:List Int) (p m q:Nat) (j:Nat→Value):evC (yty.enm tabS7 [mEnd] 2000003) su2X_h (cAt [1,1,0,1,0,0] (bdy Tryd.f11)) ⟨su2X_a a g0 g1 t o l cp S p m q j,[((wA .u32 64 kL2),g0),((wA .u64 80 kL5),g1),(a,t),((wA .u8 32 []),(25,(0,0))),((wA .u32 8 S),(42,(0,0)))],True,[some (.bool false)]⟩=some ((.exit 0),⟨su2X_b a g0 g1 t o l cp S p m q j,[((wA .u32 64 kL2),g0),((wA .u64 80 kL5),g1),(a,t),((wA .u8 32 []),(25,(0,0))),((wA .u32 8 S),(42,(0,0)))],(((True∧True)∧True)∧(True∧(decide (64≤(m:Int)))=false)),[]⟩):=by kernel_rfl
theorem su2X_r (a:Array Value) (g0 g1 t:Tq) (o l cp:Nat) (S:List Int) (p m q:Nat) (j:Nat→Value)  (h0:(decide (64≤(m:Int)))=false) :Runs Tryd.prog (cAt [1,1,0,1,0,0] (bdy Tryd.f11)) ⟨su2X_a a g0 g1 t o l cp S p m q j,[((wA .u32 64 kL2),g0),((wA .u64 80 kL5),g1),(a,t),((wA .u8 32 []),(25,(0,0))),((wA .u32 8 S),(42,(0,0)))],c0,ch0⟩ (fun e s=>e=(.exit 0)∧∃ c ch,s=⟨su2X_b a g0 g1 t o l cp S p m q j,[((wA .u32 64 kL2),g0),((wA .u64 80 kL5),g1),(a,t),((wA .u8 32 []),(25,(0,0))),((wA .u32 8 S),(42,(0,0)))],c,ch⟩) 2000003:=by
  refine(runs_ev mixed [some (.bool false)] (su2X_0 a g0 g1 t o l cp S p m q j) ⟨(tt2 trivial),⟨trivial,h0⟩⟩).mono ?_
  rintro e s ⟨rfl,rfl⟩
  exact⟨rfl,_,_,rfl⟩
def su2D_h (i:Nat):Hn:=if i=5 then⟨4,[],[],[],[]⟩ else if i=9 then⟨4,[],[],[],[]⟩ else⟨0,[],[],[],[]⟩
def su2D_a (a:Array Value) (g0 g1 t:Tq) (o l cp:Nat) (S:List Int) (p m q:Nat) (j:Nat→Value):List Value:= [.slice (some ⟨2,o,none⟩) l cp,j 1,.pointer (some ⟨3,0,none⟩),.pointer (some ⟨4,0,none⟩),j 4,j 5,j 6,j 7,j 8,j 9,j 10,j 11,j 12,j 13,j 14,j 15,j 16,j 17,j 18,j 19,j 20,j 21,j 22,j 23,j 24,j 25,j 26,j 27,j 28,j 29]
def su2D_b (a:Array Value) (g0 g1 t:Tq) (o l cp:Nat) (S:List Int) (p m q:Nat) (j:Nat→Value):List Value:= [.slice (some ⟨2,o,none⟩) l cp,j 1,.pointer (some ⟨3,0,none⟩),.pointer (some ⟨4,0,none⟩),j 4,.slice (some ⟨5,0,none⟩) (endN2 l) (endN2 l),j 6,j 7,j 8,j 9,j 10,j 11,j 12,j 13,j 14,j 15,j 16,.slice (some ⟨2,o,none⟩) l cp,.slice (some ⟨5,0,none⟩) (endN2 l) (endN2 l),j 19,j 20,j 21,j 22,j 23,j 24,j 25,j 26,j 27,j 28,j 29]
theorem su2D_0 (a:Array Value) (g0 g1 t:Tq) (o l cp:Nat) (S:List Int) (p m q:Nat) (j:Nat→Value):evC (yty.enm tabS7 [mEnd] 2000003) su2D_h (cAt [1,1,1,0,0] (bdy Tryd.f11)) ⟨su2D_a a g0 g1 t o l cp S p m q j,[((wA .u32 64 kL2),g0),((wA .u64 80 kL5),g1),(a,t),((wA .u8 32 []),(25,(0,0))),((wA .u32 8 S),(42,(0,0)))],True,[]⟩=some (.normal,⟨su2D_b a g0 g1 t o l cp S p m q j,[((wA .u32 64 kL2),g0),((wA .u64 80 kL5),g1),(a,t),((wA .u8 32 []),(25,(0,0))),((wA .u32 8 S),(42,(0,0))),((endC2 a o l),(5,(0,0)))],(((True∧True)∧(bytesAt a o l∧o+l≤a.size∧l≤cp∧l<1152921504606846976))∧True),[]⟩):=by kernel_rfl
theorem su2D_r (a:Array Value) (g0 g1 t:Tq) (o l cp:Nat) (S:List Int) (p m q:Nat) (j:Nat→Value)  (q0:(bytesAt a o l∧o+l≤a.size∧l≤cp∧l<1152921504606846976))  :Runs Tryd.prog (cAt [1,1,1,0,0] (bdy Tryd.f11)) ⟨su2D_a a g0 g1 t o l cp S p m q j,[((wA .u32 64 kL2),g0),((wA .u64 80 kL5),g1),(a,t),((wA .u8 32 []),(25,(0,0))),((wA .u32 8 S),(42,(0,0)))],c0,ch0⟩ (fun e s=>e= .normal∧∃ c ch,s=⟨su2D_b a g0 g1 t o l cp S p m q j,[((wA .u32 64 kL2),g0),((wA .u64 80 kL5),g1),(a,t),((wA .u8 32 []),(25,(0,0))),((wA .u32 8 S),(42,(0,0))),((endC2 a o l),(5,(0,0)))],c,ch⟩) 2000003:=by
  refine(runs_ev mixed [] (su2D_0 a g0 g1 t o l cp S p m q j) (tt1 ⟨(tt1 trivial),q0⟩)).mono ?_
  rintro e s ⟨rfl,rfl⟩
  exact⟨rfl,_,_,rfl⟩
def su2U_h (i:Nat):Hn:=if i=5 then⟨4,[],[],[],[]⟩ else if i=9 then⟨4,[],[],[],[]⟩ else⟨0,[],[],[],[]⟩
def su2U_a (a C:Array Value) (g0 g1 t:Tq) (S:List Int) (p m q:Nat) (j:Nat→Value):List Value:= [j 0,j 1,.pointer (some ⟨3,0,none⟩),.pointer (some ⟨4,0,none⟩),j 4,.slice (some ⟨5,p,none⟩) m q,j 6,j 7,j 8,j 9,j 10,j 11,j 12,j 13,j 14,j 15,j 16,j 17,j 18,j 19,j 20,j 21,j 22,j 23,j 24,j 25,j 26,j 27,j 28,j 29]
def su2U_b (a C:Array Value) (g0 g1 t:Tq) (S:List Int) (p m q:Nat) (j:Nat→Value):List Value:= [j 0,j 1,.pointer (some ⟨3,0,none⟩),.pointer (some ⟨4,0,none⟩),j 4,.slice (some ⟨5,(if q=64 then p else p+64*1),none⟩) (m - 64) (q - 64),j 6,j 7,j 8,j 9,j 10,j 11,j 12,j 13,j 14,j 15,j 16,j 17,j 18,.slice (some ⟨5,p,none⟩) m q,.int .i64 (m:Int),.bool true,.slice (some ⟨5,p,none⟩) m q,.slice (some ⟨5,(if q=64 then p else p+64*1),none⟩) (m - 64) (q - 64),.agg (wA .u32 8 S),.slice (some ⟨5,p,none⟩) m q,.slice (some ⟨5,(if q=0 then p else p+0*1),none⟩) 64 q,.agg (wA .u32 8 (bhd2 (dL (wA .u32 8 S)) (fun i=>wd2 C ((if q=0 then p else p+0*1)+4*i)))),j 28,j 29]
theorem su2U_0 (a C:Array Value) (g0 g1 t:Tq) (S:List Int) (p m q:Nat) (j:Nat→Value):evC (yty.enm tabS7 [mEnd] 2000003) su2U_h (cAt [1,1,1,0,1,0,0] (bdy Tryd.f11)) ⟨su2U_a a C g0 g1 t S p m q j,[((wA .u32 64 kL2),g0),((wA .u64 80 kL5),g1),(a,t),((wA .u8 32 []),(25,(0,0))),((wA .u32 8 S),(42,(0,0))),(C,(5,(0,0)))],True,[some (.bool true)]⟩=some (.normal,⟨su2U_b a C g0 g1 t S p m q j,[((wA .u32 64 kL2),g0),((wA .u64 80 kL5),g1),(a,t),((wA .u8 32 []),(25,(0,0))),((wA .u32 8 (bhd2 (dL (wA .u32 8 S)) (fun i=>wd2 C ((if q=0 then p else p+0*1)+4*i)))),(42,(0,0))),(C,(5,(0,0)))],(((((((((((True∧True)∧True)∧(True∧(decide (0<(m:Int)))=true))∧True)∧True)∧((True∧((0:Int)≤64))∧0≤64∧64≤q))∧((wA .u32 64 kL2)=wA .u32 64 kL2∧(wA .u64 80 kL5)=wA .u64 80 kL5∧(wA .u32 8 S)=wA .u32 8 (dL (wA .u32 8 S))∧bytesAt C (if q=0 then p else p+0*1) 64∧64≤64∧64≤q))∧((wA .u32 8 (bhd2 (dL (wA .u32 8 S)) (fun i=>wd2 C ((if q=0 then p else p+0*1)+4*i)))).all (fun v=>v.oneCell')=true))∧True)∧((((0:Int)≤64)∧True)∧64≤m∧m≤q))∧True),[]⟩):=by kernel_rfl
theorem su2U_r (a C:Array Value) (g0 g1 t:Tq) (S:List Int) (p m q:Nat) (j:Nat→Value)  (q0:((True∧((0:Int)≤64))∧0≤64∧64≤q)) (q1:((wA .u32 64 kL2)=wA .u32 64 kL2∧(wA .u64 80 kL5)=wA .u64 80 kL5∧(wA .u32 8 S)=wA .u32 8 (dL (wA .u32 8 S))∧bytesAt C (if q=0 then p else p+0*1) 64∧64≤64∧64≤q)) (q2:((wA .u32 8 (bhd2 (dL (wA .u32 8 S)) (fun i=>wd2 C ((if q=0 then p else p+0*1)+4*i)))).all (fun v=>v.oneCell')=true)) (q3:((((0:Int)≤64)∧True)∧64≤m∧m≤q)) (h0:(decide (0<(m:Int)))=true) :Runs Tryd.prog (cAt [1,1,1,0,1,0,0] (bdy Tryd.f11)) ⟨su2U_a a C g0 g1 t S p m q j,[((wA .u32 64 kL2),g0),((wA .u64 80 kL5),g1),(a,t),((wA .u8 32 []),(25,(0,0))),((wA .u32 8 S),(42,(0,0))),(C,(5,(0,0)))],c0,ch0⟩ (fun e s=>e= .normal∧∃ c ch,s=⟨su2U_b a C g0 g1 t S p m q j,[((wA .u32 64 kL2),g0),((wA .u64 80 kL5),g1),(a,t),((wA .u8 32 []),(25,(0,0))),((wA .u32 8 (bhd2 (dL (wA .u32 8 S)) (fun i=>wd2 C ((if q=0 then p else p+0*1)+4*i)))),(42,(0,0))),(C,(5,(0,0)))],c,ch⟩) 2000003:=by
  refine(runs_ev mixed [some (.bool true)] (su2U_0 a C g0 g1 t S p m q j) (tt1 ⟨(tt1 ⟨⟨⟨(tt2 ⟨(tt2 trivial),⟨trivial,h0⟩⟩),q0⟩,q1⟩,q2⟩),q3⟩)).mono ?_
  rintro e s ⟨rfl,rfl⟩
  exact⟨rfl,_,_,rfl⟩
def su2Y_h (i:Nat):Hn:=if i=5 then⟨4,[],[],[],[]⟩ else if i=9 then⟨4,[],[],[],[]⟩ else⟨0,[],[],[],[]⟩
def su2Y_a (a C:Array Value) (g0 g1 t:Tq) (S:List Int) (p m q:Nat) (j:Nat→Value):List Value:= [j 0,j 1,.pointer (some ⟨3,0,none⟩),.pointer (some ⟨4,0,none⟩),j 4,.slice (some ⟨5,p,none⟩) m q,j 6,j 7,j 8,j 9,j 10,j 11,j 12,j 13,j 14,j 15,j 16,j 17,j 18,j 19,j 20,j 21,j 22,j 23,j 24,j 25,j 26,j 27,j 28,j 29]
def su2Y_b (a C:Array Value) (g0 g1 t:Tq) (S:List Int) (p m q:Nat) (j:Nat→Value):List Value:= [j 0,j 1,.pointer (some ⟨3,0,none⟩),.pointer (some ⟨4,0,none⟩),j 4,.slice (some ⟨5,p,none⟩) m q,j 6,j 7,j 8,j 9,j 10,j 11,j 12,j 13,j 14,j 15,j 16,j 17,j 18,.slice (some ⟨5,p,none⟩) m q,.int .i64 (m:Int),.bool false,j 22,j 23,j 24,j 25,j 26,j 27,j 28,j 29]
theorem su2Y_0 (a C:Array Value) (g0 g1 t:Tq) (S:List Int) (p m q:Nat) (j:Nat→Value):evC (yty.enm tabS7 [mEnd] 2000003) su2Y_h (cAt [1,1,1,0,1,0,0] (bdy Tryd.f11)) ⟨su2Y_a a C g0 g1 t S p m q j,[((wA .u32 64 kL2),g0),((wA .u64 80 kL5),g1),(a,t),((wA .u8 32 []),(25,(0,0))),((wA .u32 8 S),(42,(0,0))),(C,(5,(0,0)))],True,[some (.bool false)]⟩=some ((.exit 2),⟨su2Y_b a C g0 g1 t S p m q j,[((wA .u32 64 kL2),g0),((wA .u64 80 kL5),g1),(a,t),((wA .u8 32 []),(25,(0,0))),((wA .u32 8 S),(42,(0,0))),(C,(5,(0,0)))],(((True∧True)∧True)∧(True∧(decide (0<(m:Int)))=false)),[]⟩):=by kernel_rfl
theorem su2Y_r (a C:Array Value) (g0 g1 t:Tq) (S:List Int) (p m q:Nat) (j:Nat→Value)  (h0:(decide (0<(m:Int)))=false) :Runs Tryd.prog (cAt [1,1,1,0,1,0,0] (bdy Tryd.f11)) ⟨su2Y_a a C g0 g1 t S p m q j,[((wA .u32 64 kL2),g0),((wA .u64 80 kL5),g1),(a,t),((wA .u8 32 []),(25,(0,0))),((wA .u32 8 S),(42,(0,0))),(C,(5,(0,0)))],c0,ch0⟩ (fun e s=>e=(.exit 2)∧∃ c ch,s=⟨su2Y_b a C g0 g1 t S p m q j,[((wA .u32 64 kL2),g0),((wA .u64 80 kL5),g1),(a,t),((wA .u8 32 []),(25,(0,0))),((wA .u32 8 S),(42,(0,0))),(C,(5,(0,0)))],c,ch⟩) 2000003:=by
  refine(runs_ev mixed [some (.bool false)] (su2Y_0 a C g0 g1 t S p m q j) ⟨(tt2 trivial),⟨trivial,h0⟩⟩).mono ?_
  rintro e s ⟨rfl,rfl⟩
  exact⟨rfl,_,_,rfl⟩
def su2Z_h (i:Nat):Hn:=if i=5 then⟨4,[],[],[],[]⟩ else if i=9 then⟨4,[],[],[],[]⟩ else⟨0,[],[],[],[]⟩
def su2Z_a (a C:Array Value) (g0 g1 t:Tq) (S:List Int) (j:Nat→Value):List Value:= [j 0,j 1,.pointer (some ⟨3,0,none⟩),.pointer (some ⟨4,0,none⟩),j 4,j 5,j 6,j 7,j 8,j 9,j 10,j 11,j 12,j 13,j 14,j 15,j 16,j 17,j 18,j 19,j 20,j 21,j 22,j 23,j 24,j 25,j 26,j 27,j 28,j 29]
def su2Z_b (a C:Array Value) (g0 g1 t:Tq) (S:List Int) (j:Nat→Value):List Value:= [j 0,j 1,.pointer (some ⟨3,0,none⟩),.pointer (some ⟨4,0,none⟩),j 4,j 5,j 6,j 7,j 8,j 9,j 10,j 11,j 12,j 13,j 14,j 15,j 16,j 17,j 18,j 19,j 20,j 21,j 22,j 23,j 24,j 25,j 26,j 27,.agg (wA .u32 8 S),.agg (wA .u8 32 (out2 (dL (wA .u32 8 S))))]
theorem su2Z_0 (a C:Array Value) (g0 g1 t:Tq) (S:List Int) (j:Nat→Value):evC (yty.enm tabS7 [mEnd] 2000003) su2Z_h (cAt [1,1,1,1] (bdy Tryd.f11)) ⟨su2Z_a a C g0 g1 t S j,[((wA .u32 64 kL2),g0),((wA .u64 80 kL5),g1),(a,t),((wA .u8 32 []),(25,(0,0))),((wA .u32 8 S),(42,(0,0))),(C,(5,(0,0)))],True,[]⟩=some (.ret,⟨su2Z_b a C g0 g1 t S j,[((wA .u32 64 kL2),g0),((wA .u64 80 kL5),g1),(a,t),((wA .u8 32 (out2 (dL (wA .u32 8 S)))),(25,(0,0))),((wA .u32 8 S),(42,(0,0))),(C,(5,(0,0)))],(((True∧True)∧((wA .u32 8 S)=wA .u32 8 (dL (wA .u32 8 S))))∧((wA .u8 32 (out2 (dL (wA .u32 8 S)))).all (fun v=>v.oneCell')=true)),[]⟩):=by kernel_rfl
theorem su2Z_r (a C:Array Value) (g0 g1 t:Tq) (S:List Int) (j:Nat→Value)  (q0:((wA .u32 8 S)=wA .u32 8 (dL (wA .u32 8 S)))) (q1:((wA .u8 32 (out2 (dL (wA .u32 8 S)))).all (fun v=>v.oneCell')=true))  :Runs Tryd.prog (cAt [1,1,1,1] (bdy Tryd.f11)) ⟨su2Z_a a C g0 g1 t S j,[((wA .u32 64 kL2),g0),((wA .u64 80 kL5),g1),(a,t),((wA .u8 32 []),(25,(0,0))),((wA .u32 8 S),(42,(0,0))),(C,(5,(0,0)))],c0,ch0⟩ (fun e s=>e= .ret∧∃ c ch,s=⟨su2Z_b a C g0 g1 t S j,[((wA .u32 64 kL2),g0),((wA .u64 80 kL5),g1),(a,t),((wA .u8 32 (out2 (dL (wA .u32 8 S)))),(25,(0,0))),((wA .u32 8 S),(42,(0,0))),(C,(5,(0,0)))],c,ch⟩) 2000003:=by
  refine(runs_ev mixed [] (su2Z_0 a C g0 g1 t S j) ⟨⟨(tt1 trivial),q0⟩,q1⟩).mono ?_
  rintro e s ⟨rfl,rfl⟩
  exact⟨rfl,_,_,rfl⟩
def su2N_h (i:Nat):Hn:=if i=5 then⟨4,[],[],[],[]⟩ else if i=9 then⟨4,[],[],[],[]⟩ else⟨0,[],[],[],[]⟩
def su2N_a (g0 g1:Tq):List Value:= [.slice none 0 0,undef,undef,undef,undef,undef,undef,undef,undef,undef,undef,undef,undef,undef,undef,undef,undef,undef,undef,undef,undef,undef,undef,undef,undef,undef,undef,undef,undef,undef]
def su2N_b (g0 g1:Tq):List Value:= [.slice none 0 0,undef,.pointer (some ⟨2,0,none⟩),.pointer (some ⟨3,0,none⟩),.slice none 0 0,.slice (some ⟨4,0,none⟩) 0 0,.agg (wA .u32 8 bg2),.slice none 0 0,.slice none 0 0,.int .i64 0,.bool false,undef,undef,undef,undef,undef,undef,.slice none 0 0,.slice (some ⟨4,0,none⟩) 64 64,.slice (some ⟨4,0,none⟩) 0 0,.int .i64 0,.bool false,.slice (some ⟨4,0,none⟩) 64 64,.slice (some ⟨4,0,none⟩) 0 0,.agg (wA .u32 8 bg2),.slice (some ⟨4,0,none⟩) 64 64,.slice (some ⟨4,0,none⟩) 64 64,.agg (wA .u32 8 (bhd2 (dL (wA .u32 8 bg2)) (fun i=>wd2 (wA .u8 64 nilL2) (0+4*i)))),.agg (wA .u32 8 (bhd2 (dL (wA .u32 8 bg2)) (fun i=>wd2 (wA .u8 64 nilL2) (0+4*i)))),.agg (wA .u8 32 (out2 (dL (wA .u32 8 (bhd2 (dL (wA .u32 8 bg2)) (fun i=>wd2 (wA .u8 64 nilL2) (0+4*i)))))))]
theorem su2N_0 (g0 g1:Tq):evC (yty.enm tabS7 [mEnd] 2000002) su2N_h (cAt [] (bdy Tryd.f11)) ⟨su2N_a g0 g1,[((wA .u32 64 kL2),g0),((wA .u64 80 kL5),g1)],True,[]⟩=some (.ret,⟨su2N_b g0 g1,[((wA .u32 64 kL2),g0),((wA .u64 80 kL5),g1),((wA .u8 32 (out2 (dL (wA .u32 8 (bhd2 (dL (wA .u32 8 bg2)) (fun i=>wd2 (wA .u8 64 nilL2) (0+4*i))))))),(25,(0,0))),((wA .u32 8 (bhd2 (dL (wA .u32 8 bg2)) (fun i=>wd2 (wA .u8 64 nilL2) (0+4*i)))),(42,(0,0))),((wA .u8 64 nilL2),(5,(0,0)))],(((((((((((((((((((((((((((True∧True)∧((wA .u32 8 bg2).all (fun v=>v.oneCell')=true))∧True)∧True)∧True)∧True)∧True)∧True)∧True)∧True)∧True)∧True)∧True)∧True)∧True)∧((True∧((0:Int)≤64))∧0≤64∧64≤64))∧((wA .u32 64 kL2)=wA .u32 64 kL2∧(wA .u64 80 kL5)=wA .u64 80 kL5∧(wA .u32 8 bg2)=wA .u32 8 (dL (wA .u32 8 bg2))∧bytesAt (wA .u8 64 nilL2) 0 64∧64≤64∧64≤64))∧((wA .u32 8 (bhd2 (dL (wA .u32 8 bg2)) (fun i=>wd2 (wA .u8 64 nilL2) (0+4*i)))).all (fun v=>v.oneCell')=true))∧True)∧((((0:Int)≤64)∧True)∧64≤64∧64≤64))∧True)∧True)∧True)∧True)∧True)∧((wA .u32 8 (bhd2 (dL (wA .u32 8 bg2)) (fun i=>wd2 (wA .u8 64 nilL2) (0+4*i))))=wA .u32 8 (dL (wA .u32 8 (bhd2 (dL (wA .u32 8 bg2)) (fun i=>wd2 (wA .u8 64 nilL2) (0+4*i)))))))∧((wA .u8 32 (out2 (dL (wA .u32 8 (bhd2 (dL (wA .u32 8 bg2)) (fun i=>wd2 (wA .u8 64 nilL2) (0+4*i))))))).all (fun v=>v.oneCell')=true)),[]⟩):=by kernel_rfl
theorem su2N_r (g0 g1:Tq)   (q0:((wA .u32 8 bg2).all (fun v=>v.oneCell')=true)) (q1:((wA .u32 64 kL2)=wA .u32 64 kL2∧(wA .u64 80 kL5)=wA .u64 80 kL5∧(wA .u32 8 bg2)=wA .u32 8 (dL (wA .u32 8 bg2))∧bytesAt (wA .u8 64 nilL2) 0 64∧64≤64∧64≤64)) (q2:((wA .u32 8 (bhd2 (dL (wA .u32 8 bg2)) (fun i=>wd2 (wA .u8 64 nilL2) (0+4*i)))).all (fun v=>v.oneCell')=true)) (q3:((wA .u32 8 (bhd2 (dL (wA .u32 8 bg2)) (fun i=>wd2 (wA .u8 64 nilL2) (0+4*i))))=wA .u32 8 (dL (wA .u32 8 (bhd2 (dL (wA .u32 8 bg2)) (fun i=>wd2 (wA .u8 64 nilL2) (0+4*i))))))) (q4:((wA .u8 32 (out2 (dL (wA .u32 8 (bhd2 (dL (wA .u32 8 bg2)) (fun i=>wd2 (wA .u8 64 nilL2) (0+4*i))))))).all (fun v=>v.oneCell')=true))  :Runs Tryd.prog (cAt [] (bdy Tryd.f11)) ⟨su2N_a g0 g1,[((wA .u32 64 kL2),g0),((wA .u64 80 kL5),g1)],c0,ch0⟩ (fun e s=>e= .ret∧∃ c ch,s=⟨su2N_b g0 g1,[((wA .u32 64 kL2),g0),((wA .u64 80 kL5),g1),((wA .u8 32 (out2 (dL (wA .u32 8 (bhd2 (dL (wA .u32 8 bg2)) (fun i=>wd2 (wA .u8 64 nilL2) (0+4*i))))))),(25,(0,0))),((wA .u32 8 (bhd2 (dL (wA .u32 8 bg2)) (fun i=>wd2 (wA .u8 64 nilL2) (0+4*i)))),(42,(0,0))),((wA .u8 64 nilL2),(5,(0,0)))],c,ch⟩) 2000002:=by
  refine(runs_ev mixed [] (su2N_0 g0 g1 ) ⟨⟨(tt5 ⟨(tt1 ⟨⟨⟨(tt4 (tt9 ⟨(tt1 trivial),q0⟩)),⟨⟨trivial,(by decide)⟩,(by decide),(by decide)⟩⟩,q1⟩,q2⟩),⟨(tt1 (by decide)),(by decide),(by decide)⟩⟩),q3⟩,q4⟩).mono ?_
  rintro e s ⟨rfl,rfl⟩
  exact⟨rfl,_,_,rfl⟩
def su5A_h (i:Nat):Hn:=if i=5 then⟨4,[],[],[],[]⟩ else if i=9 then⟨4,[],[],[],[]⟩ else⟨0,[],[],[],[]⟩
def su5A_a (a:Array Value) (g0 g1 t:Tq) (o l cp:Nat):List Value:= [.slice (some ⟨2,o,none⟩) l cp,undef,undef,undef,undef,undef,undef,undef,undef,undef,undef,undef,undef,undef,undef,undef,undef,undef,undef,undef,undef,undef,undef,undef,undef,undef,undef,undef,undef,undef]
def su5A_b (a:Array Value) (g0 g1 t:Tq) (o l cp:Nat):List Value:= [.slice (some ⟨2,o,none⟩) l cp,undef,.pointer (some ⟨3,0,none⟩),undef,undef,undef,undef,undef,undef,undef,undef,undef,undef,undef,undef,undef,undef,undef,undef,undef,undef,undef,undef,undef,undef,undef,undef,undef,undef,undef]
theorem su5A_0 (a:Array Value) (g0 g1 t:Tq) (o l cp:Nat):evC (yty.enm tabS7 [mEnd] 2000003) su5A_h (cAt [0] (bdy Tryd.f26)) ⟨su5A_a a g0 g1 t o l cp,[((wA .u32 64 kL2),g0),((wA .u64 80 kL5),g1),(a,t)],True,[]⟩=some (.normal,⟨su5A_b a g0 g1 t o l cp,[((wA .u32 64 kL2),g0),((wA .u64 80 kL5),g1),(a,t),((wA .u8 64 []),(29,(0,0)))],True,[]⟩):=by kernel_rfl
theorem su5A_r (a:Array Value) (g0 g1 t:Tq) (o l cp:Nat)    :Runs Tryd.prog (cAt [0] (bdy Tryd.f26)) ⟨su5A_a a g0 g1 t o l cp,[((wA .u32 64 kL2),g0),((wA .u64 80 kL5),g1),(a,t)],c0,ch0⟩ (fun e s=>e= .normal∧∃ c ch,s=⟨su5A_b a g0 g1 t o l cp,[((wA .u32 64 kL2),g0),((wA .u64 80 kL5),g1),(a,t),((wA .u8 64 []),(29,(0,0)))],c,ch⟩) 2000003:=by
  refine(runs_ev mixed [] (su5A_0 a g0 g1 t o l cp ) trivial).mono ?_
  rintro e s ⟨rfl,rfl⟩
  exact⟨rfl,_,_,rfl⟩
def su5B_h (i:Nat):Hn:=if i=5 then⟨4,[],[],[],[]⟩ else if i=9 then⟨4,[],[],[],[]⟩ else⟨0,[],[],[],[]⟩
def su5B_a (a:Array Value) (g0 g1 t:Tq) (o l cp:Nat):List Value:= [.slice (some ⟨2,o,none⟩) l cp,undef,.pointer (some ⟨3,0,none⟩),undef,undef,undef,undef,undef,undef,undef,undef,undef,undef,undef,undef,undef,undef,undef,undef,undef,undef,undef,undef,undef,undef,undef,undef,undef,undef,undef]
def su5B_b (a:Array Value) (g0 g1 t:Tq) (o l cp:Nat):List Value:= [.slice (some ⟨2,o,none⟩) l cp,undef,.pointer (some ⟨3,0,none⟩),.pointer (some ⟨4,0,none⟩),undef,undef,.agg (wA .u64 8 bg5),undef,undef,undef,undef,undef,undef,undef,undef,undef,undef,undef,undef,undef,undef,undef,undef,undef,undef,undef,undef,undef,undef,undef]
theorem su5B_0 (a:Array Value) (g0 g1 t:Tq) (o l cp:Nat):evC (yty.enm tabS7 [mEnd] 2000003) su5B_h (cAt [1,0] (bdy Tryd.f26)) ⟨su5B_a a g0 g1 t o l cp,[((wA .u32 64 kL2),g0),((wA .u64 80 kL5),g1),(a,t),((wA .u8 64 []),(29,(0,0)))],True,[]⟩=some (.normal,⟨su5B_b a g0 g1 t o l cp,[((wA .u32 64 kL2),g0),((wA .u64 80 kL5),g1),(a,t),((wA .u8 64 []),(29,(0,0))),((wA .u64 8 bg5),(60,(0,0)))],((True∧True)∧((wA .u64 8 bg5).all (fun v=>v.oneCell')=true)),[]⟩):=by kernel_rfl
theorem su5B_r (a:Array Value) (g0 g1 t:Tq) (o l cp:Nat)   (q0:((wA .u64 8 bg5).all (fun v=>v.oneCell')=true))  :Runs Tryd.prog (cAt [1,0] (bdy Tryd.f26)) ⟨su5B_a a g0 g1 t o l cp,[((wA .u32 64 kL2),g0),((wA .u64 80 kL5),g1),(a,t),((wA .u8 64 []),(29,(0,0)))],c0,ch0⟩ (fun e s=>e= .normal∧∃ c ch,s=⟨su5B_b a g0 g1 t o l cp,[((wA .u32 64 kL2),g0),((wA .u64 80 kL5),g1),(a,t),((wA .u8 64 []),(29,(0,0))),((wA .u64 8 bg5),(60,(0,0)))],c,ch⟩) 2000003:=by
  refine(runs_ev mixed [] (su5B_0 a g0 g1 t o l cp ) ⟨(tt1 trivial),q0⟩).mono ?_
  rintro e s ⟨rfl,rfl⟩
  exact⟨rfl,_,_,rfl⟩
def su5C_h (i:Nat):Hn:=if i=5 then⟨4,[],[],[],[]⟩ else if i=9 then⟨4,[],[],[],[]⟩ else⟨0,[],[],[],[]⟩
def su5C_a (a:Array Value) (g0 g1 t:Tq) (o l cp:Nat):List Value:= [.slice (some ⟨2,o,none⟩) l cp,undef,.pointer (some ⟨3,0,none⟩),.pointer (some ⟨4,0,none⟩),undef,undef,.agg (wA .u64 8 bg5),undef,undef,undef,undef,undef,undef,undef,undef,undef,undef,undef,undef,undef,undef,undef,undef,undef,undef,undef,undef,undef,undef,undef]
def su5C_b (a:Array Value) (g0 g1 t:Tq) (o l cp:Nat):List Value:= [.slice (some ⟨2,o,none⟩) l cp,undef,.pointer (some ⟨3,0,none⟩),.pointer (some ⟨4,0,none⟩),.slice (some ⟨2,o,none⟩) l cp,undef,.agg (wA .u64 8 bg5),.slice (some ⟨2,o,none⟩) l cp,undef,undef,undef,undef,undef,undef,undef,undef,undef,undef,undef,undef,undef,undef,undef,undef,undef,undef,undef,undef,undef,undef]
theorem su5C_0 (a:Array Value) (g0 g1 t:Tq) (o l cp:Nat):evC (yty.enm tabS7 [mEnd] 2000003) su5C_h (cAt [1,1,0,0] (bdy Tryd.f26)) ⟨su5C_a a g0 g1 t o l cp,[((wA .u32 64 kL2),g0),((wA .u64 80 kL5),g1),(a,t),((wA .u8 64 []),(29,(0,0))),((wA .u64 8 bg5),(60,(0,0)))],True,[]⟩=some (.normal,⟨su5C_b a g0 g1 t o l cp,[((wA .u32 64 kL2),g0),((wA .u64 80 kL5),g1),(a,t),((wA .u8 64 []),(29,(0,0))),((wA .u64 8 bg5),(60,(0,0)))],((True∧True)∧True),[]⟩):=by kernel_rfl
theorem su5C_r (a:Array Value) (g0 g1 t:Tq) (o l cp:Nat)    :Runs Tryd.prog (cAt [1,1,0,0] (bdy Tryd.f26)) ⟨su5C_a a g0 g1 t o l cp,[((wA .u32 64 kL2),g0),((wA .u64 80 kL5),g1),(a,t),((wA .u8 64 []),(29,(0,0))),((wA .u64 8 bg5),(60,(0,0)))],c0,ch0⟩ (fun e s=>e= .normal∧∃ c ch,s=⟨su5C_b a g0 g1 t o l cp,[((wA .u32 64 kL2),g0),((wA .u64 80 kL5),g1),(a,t),((wA .u8 64 []),(29,(0,0))),((wA .u64 8 bg5),(60,(0,0)))],c,ch⟩) 2000003:=by
  refine(runs_ev mixed [] (su5C_0 a g0 g1 t o l cp ) (tt2 trivial)).mono ?_
  rintro e s ⟨rfl,rfl⟩
  exact⟨rfl,_,_,rfl⟩
def su5T_h (i:Nat):Hn:=if i=5 then⟨4,[],[],[],[]⟩ else if i=9 then⟨4,[],[],[],[]⟩ else⟨0,[],[],[],[]⟩
def su5T_a (a:Array Value) (g0 g1 t:Tq) (o l cp:Nat) (S:List Int) (p m q:Nat) (j:Nat→Value):List Value:= [.slice (some ⟨2,o,none⟩) l cp,j 1,.pointer (some ⟨3,0,none⟩),.pointer (some ⟨4,0,none⟩),.slice (some ⟨2,p,none⟩) m q,j 5,j 6,j 7,j 8,j 9,j 10,j 11,j 12,j 13,j 14,j 15,j 16,j 17,j 18,j 19,j 20,j 21,j 22,j 23,j 24,j 25,j 26,j 27,j 28,j 29]
def su5T_b (a:Array Value) (g0 g1 t:Tq) (o l cp:Nat) (S:List Int) (p m q:Nat) (j:Nat→Value):List Value:= [.slice (some ⟨2,o,none⟩) l cp,j 1,.pointer (some ⟨3,0,none⟩),.pointer (some ⟨4,0,none⟩),.slice (some ⟨2,(if q=128 then p else p+128*1),none⟩) (m - 128) (q - 128),j 5,j 6,j 7,.slice (some ⟨2,p,none⟩) m q,.int .i64 (m:Int),.bool true,.slice (some ⟨2,p,none⟩) m q,.slice (some ⟨2,(if q=128 then p else p+128*1),none⟩) (m - 128) (q - 128),.agg (wA .u64 8 S),.slice (some ⟨2,p,none⟩) m q,.slice (some ⟨2,(if q=0 then p else p+0*1),none⟩) 128 q,.agg (wA .u64 8 (bhd5 (dL (wA .u64 8 S)) (fun i=>wd5 a ((if q=0 then p else p+0*1)+8*i)))),j 17,j 18,j 19,j 20,j 21,j 22,j 23,j 24,j 25,j 26,j 27,j 28,j 29]
theorem su5T_0 (a:Array Value) (g0 g1 t:Tq) (o l cp:Nat) (S:List Int) (p m q:Nat) (j:Nat→Value):evC (yty.enm tabS7 [mEnd] 2000003) su5T_h (cAt [1,1,0,1,0,0] (bdy Tryd.f26)) ⟨su5T_a a g0 g1 t o l cp S p m q j,[((wA .u32 64 kL2),g0),((wA .u64 80 kL5),g1),(a,t),((wA .u8 64 []),(29,(0,0))),((wA .u64 8 S),(60,(0,0)))],True,[some (.bool true)]⟩=some (.normal,⟨su5T_b a g0 g1 t o l cp S p m q j,[((wA .u32 64 kL2),g0),((wA .u64 80 kL5),g1),(a,t),((wA .u8 64 []),(29,(0,0))),((wA .u64 8 (bhd5 (dL (wA .u64 8 S)) (fun i=>wd5 a ((if q=0 then p else p+0*1)+8*i)))),(60,(0,0)))],(((((((((((True∧True)∧True)∧(True∧(decide (128≤(m:Int)))=true))∧True)∧True)∧((True∧((0:Int)≤128))∧0≤128∧128≤q))∧((wA .u32 64 kL2)=wA .u32 64 kL2∧(wA .u64 80 kL5)=wA .u64 80 kL5∧(wA .u64 8 S)=wA .u64 8 (dL (wA .u64 8 S))∧bytesAt a (if q=0 then p else p+0*1) 128∧128≤128∧128≤q))∧((wA .u64 8 (bhd5 (dL (wA .u64 8 S)) (fun i=>wd5 a ((if q=0 then p else p+0*1)+8*i)))).all (fun v=>v.oneCell')=true))∧True)∧((((0:Int)≤128)∧True)∧128≤m∧m≤q))∧True),[]⟩):=by kernel_rfl
theorem su5T_r (a:Array Value) (g0 g1 t:Tq) (o l cp:Nat) (S:List Int) (p m q:Nat) (j:Nat→Value)  (q0:((True∧((0:Int)≤128))∧0≤128∧128≤q)) (q1:((wA .u32 64 kL2)=wA .u32 64 kL2∧(wA .u64 80 kL5)=wA .u64 80 kL5∧(wA .u64 8 S)=wA .u64 8 (dL (wA .u64 8 S))∧bytesAt a (if q=0 then p else p+0*1) 128∧128≤128∧128≤q)) (q2:((wA .u64 8 (bhd5 (dL (wA .u64 8 S)) (fun i=>wd5 a ((if q=0 then p else p+0*1)+8*i)))).all (fun v=>v.oneCell')=true)) (q3:((((0:Int)≤128)∧True)∧128≤m∧m≤q)) (h0:(decide (128≤(m:Int)))=true) :Runs Tryd.prog (cAt [1,1,0,1,0,0] (bdy Tryd.f26)) ⟨su5T_a a g0 g1 t o l cp S p m q j,[((wA .u32 64 kL2),g0),((wA .u64 80 kL5),g1),(a,t),((wA .u8 64 []),(29,(0,0))),((wA .u64 8 S),(60,(0,0)))],c0,ch0⟩ (fun e s=>e= .normal∧∃ c ch,s=⟨su5T_b a g0 g1 t o l cp S p m q j,[((wA .u32 64 kL2),g0),((wA .u64 80 kL5),g1),(a,t),((wA .u8 64 []),(29,(0,0))),((wA .u64 8 (bhd5 (dL (wA .u64 8 S)) (fun i=>wd5 a ((if q=0 then p else p+0*1)+8*i)))),(60,(0,0)))],c,ch⟩) 2000003:=by
  refine(runs_ev mixed [some (.bool true)] (su5T_0 a g0 g1 t o l cp S p m q j) (tt1 ⟨(tt1 ⟨⟨⟨(tt2 ⟨(tt2 trivial),⟨trivial,h0⟩⟩),q0⟩,q1⟩,q2⟩),q3⟩)).mono ?_
  rintro e s ⟨rfl,rfl⟩
  exact⟨rfl,_,_,rfl⟩
def su5X_h (i:Nat):Hn:=if i=5 then⟨4,[],[],[],[]⟩ else if i=9 then⟨4,[],[],[],[]⟩ else⟨0,[],[],[],[]⟩
def su5X_a (a:Array Value) (g0 g1 t:Tq) (o l cp:Nat) (S:List Int) (p m q:Nat) (j:Nat→Value):List Value:= [.slice (some ⟨2,o,none⟩) l cp,j 1,.pointer (some ⟨3,0,none⟩),.pointer (some ⟨4,0,none⟩),.slice (some ⟨2,p,none⟩) m q,j 5,j 6,j 7,j 8,j 9,j 10,j 11,j 12,j 13,j 14,j 15,j 16,j 17,j 18,j 19,j 20,j 21,j 22,j 23,j 24,j 25,j 26,j 27,j 28,j 29]
def su5X_b (a:Array Value) (g0 g1 t:Tq) (o l cp:Nat) (S:List Int) (p m q:Nat) (j:Nat→Value):List Value:= [.slice (some ⟨2,o,none⟩) l cp,j 1,.pointer (some ⟨3,0,none⟩),.pointer (some ⟨4,0,none⟩),.slice (some ⟨2,p,none⟩) m q,j 5,j 6,j 7,.slice (some ⟨2,p,none⟩) m q,.int .i64 (m:Int),.bool false,j 11,j 12,j 13,j 14,j 15,j 16,j 17,j 18,j 19,j 20,j 21,j 22,j 23,j 24,j 25,j 26,j 27,j 28,j 29]
theorem su5X_0 (a:Array Value) (g0 g1 t:Tq) (o l cp:Nat) (S:List Int) (p m q:Nat) (j:Nat→Value):evC (yty.enm tabS7 [mEnd] 2000003) su5X_h (cAt [1,1,0,1,0,0] (bdy Tryd.f26)) ⟨su5X_a a g0 g1 t o l cp S p m q j,[((wA .u32 64 kL2),g0),((wA .u64 80 kL5),g1),(a,t),((wA .u8 64 []),(29,(0,0))),((wA .u64 8 S),(60,(0,0)))],True,[some (.bool false)]⟩=some ((.exit 0),⟨su5X_b a g0 g1 t o l cp S p m q j,[((wA .u32 64 kL2),g0),((wA .u64 80 kL5),g1),(a,t),((wA .u8 64 []),(29,(0,0))),((wA .u64 8 S),(60,(0,0)))],(((True∧True)∧True)∧(True∧(decide (128≤(m:Int)))=false)),[]⟩):=by kernel_rfl
theorem su5X_r (a:Array Value) (g0 g1 t:Tq) (o l cp:Nat) (S:List Int) (p m q:Nat) (j:Nat→Value)  (h0:(decide (128≤(m:Int)))=false) :Runs Tryd.prog (cAt [1,1,0,1,0,0] (bdy Tryd.f26)) ⟨su5X_a a g0 g1 t o l cp S p m q j,[((wA .u32 64 kL2),g0),((wA .u64 80 kL5),g1),(a,t),((wA .u8 64 []),(29,(0,0))),((wA .u64 8 S),(60,(0,0)))],c0,ch0⟩ (fun e s=>e=(.exit 0)∧∃ c ch,s=⟨su5X_b a g0 g1 t o l cp S p m q j,[((wA .u32 64 kL2),g0),((wA .u64 80 kL5),g1),(a,t),((wA .u8 64 []),(29,(0,0))),((wA .u64 8 S),(60,(0,0)))],c,ch⟩) 2000003:=by
  refine(runs_ev mixed [some (.bool false)] (su5X_0 a g0 g1 t o l cp S p m q j) ⟨(tt2 trivial),⟨trivial,h0⟩⟩).mono ?_
  rintro e s ⟨rfl,rfl⟩
  exact⟨rfl,_,_,rfl⟩
def su5D_h (i:Nat):Hn:=if i=5 then⟨4,[],[],[],[]⟩ else if i=9 then⟨4,[],[],[],[]⟩ else⟨0,[],[],[],[]⟩
def su5D_a (a:Array Value) (g0 g1 t:Tq) (o l cp:Nat) (S:List Int) (p m q:Nat) (j:Nat→Value):List Value:= [.slice (some ⟨2,o,none⟩) l cp,j 1,.pointer (some ⟨3,0,none⟩),.pointer (some ⟨4,0,none⟩),j 4,j 5,j 6,j 7,j 8,j 9,j 10,j 11,j 12,j 13,j 14,j 15,j 16,j 17,j 18,j 19,j 20,j 21,j 22,j 23,j 24,j 25,j 26,j 27,j 28,j 29]
def su5D_b (a:Array Value) (g0 g1 t:Tq) (o l cp:Nat) (S:List Int) (p m q:Nat) (j:Nat→Value):List Value:= [.slice (some ⟨2,o,none⟩) l cp,j 1,.pointer (some ⟨3,0,none⟩),.pointer (some ⟨4,0,none⟩),j 4,.slice (some ⟨5,0,none⟩) (endN5 l) (endN5 l),j 6,j 7,j 8,j 9,j 10,j 11,j 12,j 13,j 14,j 15,j 16,.slice (some ⟨2,o,none⟩) l cp,.slice (some ⟨5,0,none⟩) (endN5 l) (endN5 l),j 19,j 20,j 21,j 22,j 23,j 24,j 25,j 26,j 27,j 28,j 29]
theorem su5D_0 (a:Array Value) (g0 g1 t:Tq) (o l cp:Nat) (S:List Int) (p m q:Nat) (j:Nat→Value):evC (yty.enm tabS7 [mEnd] 2000003) su5D_h (cAt [1,1,1,0,0] (bdy Tryd.f26)) ⟨su5D_a a g0 g1 t o l cp S p m q j,[((wA .u32 64 kL2),g0),((wA .u64 80 kL5),g1),(a,t),((wA .u8 64 []),(29,(0,0))),((wA .u64 8 S),(60,(0,0)))],True,[]⟩=some (.normal,⟨su5D_b a g0 g1 t o l cp S p m q j,[((wA .u32 64 kL2),g0),((wA .u64 80 kL5),g1),(a,t),((wA .u8 64 []),(29,(0,0))),((wA .u64 8 S),(60,(0,0))),((endC5 a o l),(5,(0,0)))],(((True∧True)∧(bytesAt a o l∧o+l≤a.size∧l≤cp∧l<1152921504606846976))∧True),[]⟩):=by kernel_rfl
theorem su5D_r (a:Array Value) (g0 g1 t:Tq) (o l cp:Nat) (S:List Int) (p m q:Nat) (j:Nat→Value)  (q0:(bytesAt a o l∧o+l≤a.size∧l≤cp∧l<1152921504606846976))  :Runs Tryd.prog (cAt [1,1,1,0,0] (bdy Tryd.f26)) ⟨su5D_a a g0 g1 t o l cp S p m q j,[((wA .u32 64 kL2),g0),((wA .u64 80 kL5),g1),(a,t),((wA .u8 64 []),(29,(0,0))),((wA .u64 8 S),(60,(0,0)))],c0,ch0⟩ (fun e s=>e= .normal∧∃ c ch,s=⟨su5D_b a g0 g1 t o l cp S p m q j,[((wA .u32 64 kL2),g0),((wA .u64 80 kL5),g1),(a,t),((wA .u8 64 []),(29,(0,0))),((wA .u64 8 S),(60,(0,0))),((endC5 a o l),(5,(0,0)))],c,ch⟩) 2000003:=by
  refine(runs_ev mixed [] (su5D_0 a g0 g1 t o l cp S p m q j) (tt1 ⟨(tt1 trivial),q0⟩)).mono ?_
  rintro e s ⟨rfl,rfl⟩
  exact⟨rfl,_,_,rfl⟩
def su5U_h (i:Nat):Hn:=if i=5 then⟨4,[],[],[],[]⟩ else if i=9 then⟨4,[],[],[],[]⟩ else⟨0,[],[],[],[]⟩
def su5U_a (a C:Array Value) (g0 g1 t:Tq) (S:List Int) (p m q:Nat) (j:Nat→Value):List Value:= [j 0,j 1,.pointer (some ⟨3,0,none⟩),.pointer (some ⟨4,0,none⟩),j 4,.slice (some ⟨5,p,none⟩) m q,j 6,j 7,j 8,j 9,j 10,j 11,j 12,j 13,j 14,j 15,j 16,j 17,j 18,j 19,j 20,j 21,j 22,j 23,j 24,j 25,j 26,j 27,j 28,j 29]
def su5U_b (a C:Array Value) (g0 g1 t:Tq) (S:List Int) (p m q:Nat) (j:Nat→Value):List Value:= [j 0,j 1,.pointer (some ⟨3,0,none⟩),.pointer (some ⟨4,0,none⟩),j 4,.slice (some ⟨5,(if q=128 then p else p+128*1),none⟩) (m - 128) (q - 128),j 6,j 7,j 8,j 9,j 10,j 11,j 12,j 13,j 14,j 15,j 16,j 17,j 18,.slice (some ⟨5,p,none⟩) m q,.int .i64 (m:Int),.bool true,.slice (some ⟨5,p,none⟩) m q,.slice (some ⟨5,(if q=128 then p else p+128*1),none⟩) (m - 128) (q - 128),.agg (wA .u64 8 S),.slice (some ⟨5,p,none⟩) m q,.slice (some ⟨5,(if q=0 then p else p+0*1),none⟩) 128 q,.agg (wA .u64 8 (bhd5 (dL (wA .u64 8 S)) (fun i=>wd5 C ((if q=0 then p else p+0*1)+8*i)))),j 28,j 29]
theorem su5U_0 (a C:Array Value) (g0 g1 t:Tq) (S:List Int) (p m q:Nat) (j:Nat→Value):evC (yty.enm tabS7 [mEnd] 2000003) su5U_h (cAt [1,1,1,0,1,0,0] (bdy Tryd.f26)) ⟨su5U_a a C g0 g1 t S p m q j,[((wA .u32 64 kL2),g0),((wA .u64 80 kL5),g1),(a,t),((wA .u8 64 []),(29,(0,0))),((wA .u64 8 S),(60,(0,0))),(C,(5,(0,0)))],True,[some (.bool true)]⟩=some (.normal,⟨su5U_b a C g0 g1 t S p m q j,[((wA .u32 64 kL2),g0),((wA .u64 80 kL5),g1),(a,t),((wA .u8 64 []),(29,(0,0))),((wA .u64 8 (bhd5 (dL (wA .u64 8 S)) (fun i=>wd5 C ((if q=0 then p else p+0*1)+8*i)))),(60,(0,0))),(C,(5,(0,0)))],(((((((((((True∧True)∧True)∧(True∧(decide (0<(m:Int)))=true))∧True)∧True)∧((True∧((0:Int)≤128))∧0≤128∧128≤q))∧((wA .u32 64 kL2)=wA .u32 64 kL2∧(wA .u64 80 kL5)=wA .u64 80 kL5∧(wA .u64 8 S)=wA .u64 8 (dL (wA .u64 8 S))∧bytesAt C (if q=0 then p else p+0*1) 128∧128≤128∧128≤q))∧((wA .u64 8 (bhd5 (dL (wA .u64 8 S)) (fun i=>wd5 C ((if q=0 then p else p+0*1)+8*i)))).all (fun v=>v.oneCell')=true))∧True)∧((((0:Int)≤128)∧True)∧128≤m∧m≤q))∧True),[]⟩):=by kernel_rfl
theorem su5U_r (a C:Array Value) (g0 g1 t:Tq) (S:List Int) (p m q:Nat) (j:Nat→Value)  (q0:((True∧((0:Int)≤128))∧0≤128∧128≤q)) (q1:((wA .u32 64 kL2)=wA .u32 64 kL2∧(wA .u64 80 kL5)=wA .u64 80 kL5∧(wA .u64 8 S)=wA .u64 8 (dL (wA .u64 8 S))∧bytesAt C (if q=0 then p else p+0*1) 128∧128≤128∧128≤q)) (q2:((wA .u64 8 (bhd5 (dL (wA .u64 8 S)) (fun i=>wd5 C ((if q=0 then p else p+0*1)+8*i)))).all (fun v=>v.oneCell')=true)) (q3:((((0:Int)≤128)∧True)∧128≤m∧m≤q)) (h0:(decide (0<(m:Int)))=true) :Runs Tryd.prog (cAt [1,1,1,0,1,0,0] (bdy Tryd.f26)) ⟨su5U_a a C g0 g1 t S p m q j,[((wA .u32 64 kL2),g0),((wA .u64 80 kL5),g1),(a,t),((wA .u8 64 []),(29,(0,0))),((wA .u64 8 S),(60,(0,0))),(C,(5,(0,0)))],c0,ch0⟩ (fun e s=>e= .normal∧∃ c ch,s=⟨su5U_b a C g0 g1 t S p m q j,[((wA .u32 64 kL2),g0),((wA .u64 80 kL5),g1),(a,t),((wA .u8 64 []),(29,(0,0))),((wA .u64 8 (bhd5 (dL (wA .u64 8 S)) (fun i=>wd5 C ((if q=0 then p else p+0*1)+8*i)))),(60,(0,0))),(C,(5,(0,0)))],c,ch⟩) 2000003:=by
  refine(runs_ev mixed [some (.bool true)] (su5U_0 a C g0 g1 t S p m q j) (tt1 ⟨(tt1 ⟨⟨⟨(tt2 ⟨(tt2 trivial),⟨trivial,h0⟩⟩),q0⟩,q1⟩,q2⟩),q3⟩)).mono ?_
  rintro e s ⟨rfl,rfl⟩
  exact⟨rfl,_,_,rfl⟩
def su5Y_h (i:Nat):Hn:=if i=5 then⟨4,[],[],[],[]⟩ else if i=9 then⟨4,[],[],[],[]⟩ else⟨0,[],[],[],[]⟩
def su5Y_a (a C:Array Value) (g0 g1 t:Tq) (S:List Int) (p m q:Nat) (j:Nat→Value):List Value:= [j 0,j 1,.pointer (some ⟨3,0,none⟩),.pointer (some ⟨4,0,none⟩),j 4,.slice (some ⟨5,p,none⟩) m q,j 6,j 7,j 8,j 9,j 10,j 11,j 12,j 13,j 14,j 15,j 16,j 17,j 18,j 19,j 20,j 21,j 22,j 23,j 24,j 25,j 26,j 27,j 28,j 29]
def su5Y_b (a C:Array Value) (g0 g1 t:Tq) (S:List Int) (p m q:Nat) (j:Nat→Value):List Value:= [j 0,j 1,.pointer (some ⟨3,0,none⟩),.pointer (some ⟨4,0,none⟩),j 4,.slice (some ⟨5,p,none⟩) m q,j 6,j 7,j 8,j 9,j 10,j 11,j 12,j 13,j 14,j 15,j 16,j 17,j 18,.slice (some ⟨5,p,none⟩) m q,.int .i64 (m:Int),.bool false,j 22,j 23,j 24,j 25,j 26,j 27,j 28,j 29]
theorem su5Y_0 (a C:Array Value) (g0 g1 t:Tq) (S:List Int) (p m q:Nat) (j:Nat→Value):evC (yty.enm tabS7 [mEnd] 2000003) su5Y_h (cAt [1,1,1,0,1,0,0] (bdy Tryd.f26)) ⟨su5Y_a a C g0 g1 t S p m q j,[((wA .u32 64 kL2),g0),((wA .u64 80 kL5),g1),(a,t),((wA .u8 64 []),(29,(0,0))),((wA .u64 8 S),(60,(0,0))),(C,(5,(0,0)))],True,[some (.bool false)]⟩=some ((.exit 2),⟨su5Y_b a C g0 g1 t S p m q j,[((wA .u32 64 kL2),g0),((wA .u64 80 kL5),g1),(a,t),((wA .u8 64 []),(29,(0,0))),((wA .u64 8 S),(60,(0,0))),(C,(5,(0,0)))],(((True∧True)∧True)∧(True∧(decide (0<(m:Int)))=false)),[]⟩):=by kernel_rfl
theorem su5Y_r (a C:Array Value) (g0 g1 t:Tq) (S:List Int) (p m q:Nat) (j:Nat→Value)  (h0:(decide (0<(m:Int)))=false) :Runs Tryd.prog (cAt [1,1,1,0,1,0,0] (bdy Tryd.f26)) ⟨su5Y_a a C g0 g1 t S p m q j,[((wA .u32 64 kL2),g0),((wA .u64 80 kL5),g1),(a,t),((wA .u8 64 []),(29,(0,0))),((wA .u64 8 S),(60,(0,0))),(C,(5,(0,0)))],c0,ch0⟩ (fun e s=>e=(.exit 2)∧∃ c ch,s=⟨su5Y_b a C g0 g1 t S p m q j,[((wA .u32 64 kL2),g0),((wA .u64 80 kL5),g1),(a,t),((wA .u8 64 []),(29,(0,0))),((wA .u64 8 S),(60,(0,0))),(C,(5,(0,0)))],c,ch⟩) 2000003:=by
  refine(runs_ev mixed [some (.bool false)] (su5Y_0 a C g0 g1 t S p m q j) ⟨(tt2 trivial),⟨trivial,h0⟩⟩).mono ?_
  rintro e s ⟨rfl,rfl⟩
  exact⟨rfl,_,_,rfl⟩
def su5Z_h (i:Nat):Hn:=if i=5 then⟨4,[],[],[],[]⟩ else if i=9 then⟨4,[],[],[],[]⟩ else⟨0,[],[],[],[]⟩
def su5Z_a (a C:Array Value) (g0 g1 t:Tq) (S:List Int) (j:Nat→Value):List Value:= [j 0,j 1,.pointer (some ⟨3,0,none⟩),.pointer (some ⟨4,0,none⟩),j 4,j 5,j 6,j 7,j 8,j 9,j 10,j 11,j 12,j 13,j 14,j 15,j 16,j 17,j 18,j 19,j 20,j 21,j 22,j 23,j 24,j 25,j 26,j 27,j 28,j 29]
def su5Z_b (a C:Array Value) (g0 g1 t:Tq) (S:List Int) (j:Nat→Value):List Value:= [j 0,j 1,.pointer (some ⟨3,0,none⟩),.pointer (some ⟨4,0,none⟩),j 4,j 5,j 6,j 7,j 8,j 9,j 10,j 11,j 12,j 13,j 14,j 15,j 16,j 17,j 18,j 19,j 20,j 21,j 22,j 23,j 24,j 25,j 26,j 27,.agg (wA .u64 8 S),.agg (wA .u8 64 (out5 (dL (wA .u64 8 S))))]
theorem su5Z_0 (a C:Array Value) (g0 g1 t:Tq) (S:List Int) (j:Nat→Value):evC (yty.enm tabS7 [mEnd] 2000003) su5Z_h (cAt [1,1,1,1] (bdy Tryd.f26)) ⟨su5Z_a a C g0 g1 t S j,[((wA .u32 64 kL2),g0),((wA .u64 80 kL5),g1),(a,t),((wA .u8 64 []),(29,(0,0))),((wA .u64 8 S),(60,(0,0))),(C,(5,(0,0)))],True,[]⟩=some (.ret,⟨su5Z_b a C g0 g1 t S j,[((wA .u32 64 kL2),g0),((wA .u64 80 kL5),g1),(a,t),((wA .u8 64 (out5 (dL (wA .u64 8 S)))),(29,(0,0))),((wA .u64 8 S),(60,(0,0))),(C,(5,(0,0)))],(((True∧True)∧((wA .u64 8 S)=wA .u64 8 (dL (wA .u64 8 S))))∧((wA .u8 64 (out5 (dL (wA .u64 8 S)))).all (fun v=>v.oneCell')=true)),[]⟩):=by kernel_rfl
theorem su5Z_r (a C:Array Value) (g0 g1 t:Tq) (S:List Int) (j:Nat→Value)  (q0:((wA .u64 8 S)=wA .u64 8 (dL (wA .u64 8 S)))) (q1:((wA .u8 64 (out5 (dL (wA .u64 8 S)))).all (fun v=>v.oneCell')=true))  :Runs Tryd.prog (cAt [1,1,1,1] (bdy Tryd.f26)) ⟨su5Z_a a C g0 g1 t S j,[((wA .u32 64 kL2),g0),((wA .u64 80 kL5),g1),(a,t),((wA .u8 64 []),(29,(0,0))),((wA .u64 8 S),(60,(0,0))),(C,(5,(0,0)))],c0,ch0⟩ (fun e s=>e= .ret∧∃ c ch,s=⟨su5Z_b a C g0 g1 t S j,[((wA .u32 64 kL2),g0),((wA .u64 80 kL5),g1),(a,t),((wA .u8 64 (out5 (dL (wA .u64 8 S)))),(29,(0,0))),((wA .u64 8 S),(60,(0,0))),(C,(5,(0,0)))],c,ch⟩) 2000003:=by
  refine(runs_ev mixed [] (su5Z_0 a C g0 g1 t S j) ⟨⟨(tt1 trivial),q0⟩,q1⟩).mono ?_
  rintro e s ⟨rfl,rfl⟩
  exact⟨rfl,_,_,rfl⟩
def su5N_h (i:Nat):Hn:=if i=5 then⟨4,[],[],[],[]⟩ else if i=9 then⟨4,[],[],[],[]⟩ else⟨0,[],[],[],[]⟩
def su5N_a (g0 g1:Tq):List Value:= [.slice none 0 0,undef,undef,undef,undef,undef,undef,undef,undef,undef,undef,undef,undef,undef,undef,undef,undef,undef,undef,undef,undef,undef,undef,undef,undef,undef,undef,undef,undef,undef]
def su5N_b (g0 g1:Tq):List Value:= [.slice none 0 0,undef,.pointer (some ⟨2,0,none⟩),.pointer (some ⟨3,0,none⟩),.slice none 0 0,.slice (some ⟨4,0,none⟩) 0 0,.agg (wA .u64 8 bg5),.slice none 0 0,.slice none 0 0,.int .i64 0,.bool false,undef,undef,undef,undef,undef,undef,.slice none 0 0,.slice (some ⟨4,0,none⟩) 128 128,.slice (some ⟨4,0,none⟩) 0 0,.int .i64 0,.bool false,.slice (some ⟨4,0,none⟩) 128 128,.slice (some ⟨4,0,none⟩) 0 0,.agg (wA .u64 8 bg5),.slice (some ⟨4,0,none⟩) 128 128,.slice (some ⟨4,0,none⟩) 128 128,.agg (wA .u64 8 (bhd5 (dL (wA .u64 8 bg5)) (fun i=>wd5 (wA .u8 128 nilL5) (0+8*i)))),.agg (wA .u64 8 (bhd5 (dL (wA .u64 8 bg5)) (fun i=>wd5 (wA .u8 128 nilL5) (0+8*i)))),.agg (wA .u8 64 (out5 (dL (wA .u64 8 (bhd5 (dL (wA .u64 8 bg5)) (fun i=>wd5 (wA .u8 128 nilL5) (0+8*i)))))))]
theorem su5N_0 (g0 g1:Tq):evC (yty.enm tabS7 [mEnd] 2000002) su5N_h (cAt [] (bdy Tryd.f26)) ⟨su5N_a g0 g1,[((wA .u32 64 kL2),g0),((wA .u64 80 kL5),g1)],True,[]⟩=some (.ret,⟨su5N_b g0 g1,[((wA .u32 64 kL2),g0),((wA .u64 80 kL5),g1),((wA .u8 64 (out5 (dL (wA .u64 8 (bhd5 (dL (wA .u64 8 bg5)) (fun i=>wd5 (wA .u8 128 nilL5) (0+8*i))))))),(29,(0,0))),((wA .u64 8 (bhd5 (dL (wA .u64 8 bg5)) (fun i=>wd5 (wA .u8 128 nilL5) (0+8*i)))),(60,(0,0))),((wA .u8 128 nilL5),(5,(0,0)))],(((((((((((((((((((((((((((True∧True)∧((wA .u64 8 bg5).all (fun v=>v.oneCell')=true))∧True)∧True)∧True)∧True)∧True)∧True)∧True)∧True)∧True)∧True)∧True)∧True)∧True)∧((True∧((0:Int)≤128))∧0≤128∧128≤128))∧((wA .u32 64 kL2)=wA .u32 64 kL2∧(wA .u64 80 kL5)=wA .u64 80 kL5∧(wA .u64 8 bg5)=wA .u64 8 (dL (wA .u64 8 bg5))∧bytesAt (wA .u8 128 nilL5) 0 128∧128≤128∧128≤128))∧((wA .u64 8 (bhd5 (dL (wA .u64 8 bg5)) (fun i=>wd5 (wA .u8 128 nilL5) (0+8*i)))).all (fun v=>v.oneCell')=true))∧True)∧((((0:Int)≤128)∧True)∧128≤128∧128≤128))∧True)∧True)∧True)∧True)∧True)∧((wA .u64 8 (bhd5 (dL (wA .u64 8 bg5)) (fun i=>wd5 (wA .u8 128 nilL5) (0+8*i))))=wA .u64 8 (dL (wA .u64 8 (bhd5 (dL (wA .u64 8 bg5)) (fun i=>wd5 (wA .u8 128 nilL5) (0+8*i)))))))∧((wA .u8 64 (out5 (dL (wA .u64 8 (bhd5 (dL (wA .u64 8 bg5)) (fun i=>wd5 (wA .u8 128 nilL5) (0+8*i))))))).all (fun v=>v.oneCell')=true)),[]⟩):=by kernel_rfl
theorem su5N_r (g0 g1:Tq)   (q0:((wA .u64 8 bg5).all (fun v=>v.oneCell')=true)) (q1:((wA .u32 64 kL2)=wA .u32 64 kL2∧(wA .u64 80 kL5)=wA .u64 80 kL5∧(wA .u64 8 bg5)=wA .u64 8 (dL (wA .u64 8 bg5))∧bytesAt (wA .u8 128 nilL5) 0 128∧128≤128∧128≤128)) (q2:((wA .u64 8 (bhd5 (dL (wA .u64 8 bg5)) (fun i=>wd5 (wA .u8 128 nilL5) (0+8*i)))).all (fun v=>v.oneCell')=true)) (q3:((wA .u64 8 (bhd5 (dL (wA .u64 8 bg5)) (fun i=>wd5 (wA .u8 128 nilL5) (0+8*i))))=wA .u64 8 (dL (wA .u64 8 (bhd5 (dL (wA .u64 8 bg5)) (fun i=>wd5 (wA .u8 128 nilL5) (0+8*i))))))) (q4:((wA .u8 64 (out5 (dL (wA .u64 8 (bhd5 (dL (wA .u64 8 bg5)) (fun i=>wd5 (wA .u8 128 nilL5) (0+8*i))))))).all (fun v=>v.oneCell')=true))  :Runs Tryd.prog (cAt [] (bdy Tryd.f26)) ⟨su5N_a g0 g1,[((wA .u32 64 kL2),g0),((wA .u64 80 kL5),g1)],c0,ch0⟩ (fun e s=>e= .ret∧∃ c ch,s=⟨su5N_b g0 g1,[((wA .u32 64 kL2),g0),((wA .u64 80 kL5),g1),((wA .u8 64 (out5 (dL (wA .u64 8 (bhd5 (dL (wA .u64 8 bg5)) (fun i=>wd5 (wA .u8 128 nilL5) (0+8*i))))))),(29,(0,0))),((wA .u64 8 (bhd5 (dL (wA .u64 8 bg5)) (fun i=>wd5 (wA .u8 128 nilL5) (0+8*i)))),(60,(0,0))),((wA .u8 128 nilL5),(5,(0,0)))],c,ch⟩) 2000002:=by
  refine(runs_ev mixed [] (su5N_0 g0 g1 ) ⟨⟨(tt5 ⟨(tt1 ⟨⟨⟨(tt4 (tt9 ⟨(tt1 trivial),q0⟩)),⟨⟨trivial,(by decide)⟩,(by decide),(by decide)⟩⟩,q1⟩,q2⟩),⟨(tt1 (by decide)),(by decide),(by decide)⟩⟩),q3⟩,q4⟩).mono ?_
  rintro e s ⟨rfl,rfl⟩
  exact⟨rfl,_,_,rfl⟩
end Go.Proofs.YtcfnjcacdmkgbaaDoor

set_option linter.unusedSimpArgs false
set_option linter.unusedVariables false
/-! The sum of a text: loops. -/
namespace Go.Proofs.YtcfnjcacdmkgbaaDoor
open Go.RowKit Go.Ev
variable {c0:Prop} {ch0:List (Option Value)}
theorem dL_get {k:IntKind} {S:List Int}:dL (wA k 8 S)= [S.getD 0 0,S.getD 1 0,S.getD 2 0,S.getD 3 0,S.getD 4 0,S.getD 5 0,S.getD 6 0,S.getD 7 0]:=rfl
theorem dL_eq {k:IntKind} {S:List Int} (h:S.length=8):dL (wA k 8 S)=S:=by
  rw[dL_get]
  match S,h with
  | [a,b,c,d,e,f,g,i],_=>rfl
theorem wA_bytes {N:Nat} {L:List Int} (h:∀ i,i<N→0≤L.getD i 0∧L.getD i 0<256):bytesAt (wA .u8 N L) 0 N:=fun j hj=>by
  rw[Nat.zero_add]
  have e:iat (wA .u8 N L) j=L.getD j 0:=by unfold iat;rw[wA_at hj]
  rw[e]
  exact⟨wA_at hj,h j hj⟩
def Bt (x:Int):Prop:=0≤x∧x<256
theorem bt_wrap (n:Int):Bt (IntKind.u8.wrap n):=by unfold Bt;rw[IntKind.wrap_u8];omega
theorem bt_lset {N p:Nat} {L:List Int} {x:Int} (h:∀ i,i<N→Bt (L.getD i 0)) (hx:Bt x):∀ i,i<N→Bt ((lset N L p x).getD i 0):=fun i hi=>by
  rw[lset_at hi]
  split
  · exact hx
  · exact h i hi
theorem bt_pad {N:Nat} {L:List Int} {c:Int} (h:∀ i,i<N→Bt (L.getD i 0)):∀ i,i<N→Bt ((pad8 N L c).getD i 0):=
  bt_lset (bt_lset (bt_lset (bt_lset (bt_lset (bt_lset (bt_lset (bt_lset h (bt_wrap _)) (bt_wrap _)) (bt_wrap _)) (bt_wrap _)) (bt_wrap _)) (bt_wrap _)) (bt_wrap _)) (bt_wrap _)
theorem bt_tl {a:Array Value} {p r:Nat} (hb:bytesAt a p r) (i:Nat):Bt ((bL a p r ++ [128]).getD i 0):=by
  rw[List.getD_eq_getElem?_getD,List.getElem?_append,bL_len]
  split
  · rename_i h
    have:=bL_at (a:=a) (p:=p) (r:=r) (i:=i)
    rw[List.getD_eq_getElem?_getD,if_pos h] at this
    rw[this]
    exact⟨(hb i h).2.1,(hb i h).2.2⟩
  · by_cases h : i - r = 0
    · rw[h];exact⟨by decide,by decide⟩
    · rw[List.getElem?_eq_none (by simp;omega)];exact⟨by decide,by decide⟩
def fS2 (S:List Int) (a:Array Value) (o:Nat):Nat→List Int
  |0=>S
  |j+1=>bhd2 (fS2 S a o j) (fun i=>wd2 a (o+64*j+4*i))
theorem fS2_len {S:List Int} (hS:S.length=8) (a:Array Value) (o:Nat):∀ j,(fS2 S a o j).length=8
  |0=>hS
  |j+1=>rfl
def suM2 (a:Array Value) (g0 g1 t:Tq) (S:List Int):List Mb:= [(wA .u32 64 kL2,g0),(wA .u64 80 kL5,g1),(a,t),(wA .u8 32 [],(25,(0,0))),(wA .u32 8 S,(42,(0,0)))]
theorem su2_l1 (a:Array Value) (g0 g1 t:Tq) (o l cp:Nat) (hb:bytesAt a o l) (hc:l≤cp) (S:List Int) (hS:S.length=8) (j0:Nat→Value) :Runs Tryd.prog (.loop (cAt [1,1,0,1,0,0] (bdy Tryd.f11))) ⟨su2T_a a g0 g1 t o l cp [] o l cp j0,suM2 a g0 g1 t S,c0,ch0⟩ (fun e s=>e= .exit 0∧∃ p m q j c ch,s=⟨su2T_a a g0 g1 t o l cp [] p m q j,suM2 a g0 g1 t (fS2 S a o (l / 64)),c,ch⟩) 2000003:=by
  refine runs_loop (fun M s=>∃ k p q j c ch,64*k≤l∧M=l / 64 - k∧q+64*k=cp∧(q=0∨p=o+64*k)∧s=⟨su2T_a a g0 g1 t o l cp [] p (l - 64*k) q j,suM2 a g0 g1 t (fS2 S a o k),c,ch⟩) (l / 64) ⟨0,o,cp,j0,c0,ch0,by omega,rfl,rfl,.inr rfl,rfl⟩ ?_
  rintro M s ⟨k,p,q,j,c,ch,hk,rfl,hq,hp,rfl⟩
  have hlen:=fS2_len hS a o k
  by_cases h:64≤l - 64*k
  · have hq0 : q ≠ 0 := by omega
    have hp':p=o+64*k:=by rcases hp with h|h;exact absurd h hq0;exact h
    have ho:(if q=0 then p else p+0*1)=o+64*k:=by rw[if_neg hq0,hp'];omega
    have hdl:=dL_eq (k:= .u32) hlen
    refine(su2T_r a g0 g1 t o l cp (fS2 S a o k) p (l - 64*k) q j ⟨⟨trivial,by decide⟩,by decide,by omega⟩ ⟨rfl,rfl,by rw[hdl],by rw[ho];exact hb.sub (by omega),by decide,by omega⟩ (wA_one _ _ _) ⟨(tt1 (by decide)),h,by omega⟩ (decide_eq_true (by omega))).mono ?_
    rintro e s ⟨rfl,c,ch,hs⟩
    rw[hdl,ho] at hs
    refine .inl ⟨rfl,l / 64 - (k+1),by omega,k+1,(if q=64 then p else p+64*1),q - 64,fun q=>s.tm.getD q undef,c,ch,by omega,rfl,by omega,?_,?_⟩
    · by_cases e : q = 64
      · left;omega
      · right;rw[if_neg e,hp'];omega
    · rw [show l - 64 * (k + 1) = l - 64 * k - 64 by omega]
      subst hs
      rfl
  · have : k = l / 64 := by omega
    subst this
    refine(su2X_r a g0 g1 t o l cp (fS2 S a o (l / 64)) p (l - 64*(l / 64)) q j (decide_eq_false (by omega))).mono ?_
    rintro e s ⟨rfl,c,ch,hs⟩
    refine .inr ⟨by simp,rfl,p,l - 64*(l / 64),q,fun q=>s.tm.getD q undef,c,ch,?_⟩
    subst hs
    rfl
theorem su2_l2 (a C:Array Value) (g0 g1 t:Tq) (z:Nat) (hb:bytesAt C 0 (64*z)) (S:List Int) (hS:S.length=8) (j0:Nat→Value) :Runs Tryd.prog (.loop (cAt [1,1,1,0,1,0,0] (bdy Tryd.f11))) ⟨su2U_a a C g0 g1 t [] 0 (64*z) (64*z) j0,suM2 a g0 g1 t S ++ [(C,(5,(0,0)))],c0,ch0⟩ (fun e s=>e= .exit 2∧∃ p m q j c ch,s=⟨su2U_a a C g0 g1 t [] p m q j,suM2 a g0 g1 t (fS2 S C 0 z) ++ [(C,(5,(0,0)))],c,ch⟩) 2000003:=by
  refine runs_loop (fun M s=>∃ k p q j c ch,k≤z∧M=z - k∧q+64*k=64*z∧(q=0∨p=0+64*k)∧s=⟨su2U_a a C g0 g1 t [] p (64*z - 64*k) q j,suM2 a g0 g1 t (fS2 S C 0 k) ++ [(C,(5,(0,0)))],c,ch⟩) z ⟨0,0,64*z,j0,c0,ch0,by omega,rfl,rfl,.inr rfl,rfl⟩ ?_
  rintro M s ⟨k,p,q,j,c,ch,hk,rfl,hq,hp,rfl⟩
  have hlen:=fS2_len hS C 0 k
  by_cases h:k<z
  · have hq0 : q ≠ 0 := by omega
    have hp':p=0+64*k:=by rcases hp with h|h;exact absurd h hq0;exact h
    have ho:(if q=0 then p else p+0*1)=0+64*k:=by rw[if_neg hq0,hp'];omega
    have hdl:=dL_eq (k:= .u32) hlen
    refine(su2U_r a C g0 g1 t (fS2 S C 0 k) p (64*z - 64*k) q j ⟨⟨trivial,by decide⟩,by decide,by omega⟩ ⟨rfl,rfl,by rw[hdl],by rw[ho];exact hb.sub (by omega),by decide,by omega⟩ (wA_one _ _ _) ⟨(tt1 (by decide)),by omega,by omega⟩ (decide_eq_true (by omega))).mono ?_
    rintro e s ⟨rfl,c,ch,hs⟩
    rw[hdl,ho] at hs
    refine .inl ⟨rfl,z - (k+1),by omega,k+1,(if q=64 then p else p+64*1),q - 64,fun q=>s.tm.getD q undef,c,ch,by omega,rfl,by omega,?_,?_⟩
    · by_cases e : q = 64
      · left;omega
      · right;rw[if_neg e,hp'];omega
    · rw [show 64 * z - 64 * (k + 1) = 64 * z - 64 * k - 64 by omega]
      subst hs
      rfl
  · have : k = z := by omega
    subst this
    refine(su2Y_r a C g0 g1 t (fS2 S C 0 k) p (64*k - 64*k) q j (decide_eq_false (by omega))).mono ?_
    rintro e s ⟨rfl,c,ch,hs⟩
    refine .inr ⟨by simp,rfl,p,64*k - 64*k,q,fun q=>s.tm.getD q undef,c,ch,?_⟩
    subst hs
    rfl
theorem su2_shape:(bdy Tryd.f11)= .seq (cAt [0] (bdy Tryd.f11)) (.seq (cAt [1,0] (bdy Tryd.f11)) (.seq (.seq (cAt [1,1,0,0] (bdy Tryd.f11)) (.block 0 (.loop (cAt [1,1,0,1,0,0] (bdy Tryd.f11))))) (.seq (.seq (cAt [1,1,1,0,0] (bdy Tryd.f11)) (.block 2 (.loop (cAt [1,1,1,0,1,0,0] (bdy Tryd.f11))))) (cAt [1,1,1,1] (bdy Tryd.f11))))):=by kernel_rfl
def sum2 (a:Array Value) (o l:Nat):List Int:=out2 (fS2 (fS2 bg2 a o (l / 64)) (endC2 a o l) 0 (endN2 l / 64))
theorem end2_bytes {a:Array Value} {o l:Nat} (hb:bytesAt a o l):bytesAt (endC2 a o l) 0 (endN2 l):=by
  have hle:=Nat.mod_le l 64
  refine wA_bytes (bt_pad (fun i _=> ?_))
  unfold tl2
  exact bt_tl (hb.sub (by omega)) i
theorem endN2_mul (l:Nat):endN2 l=64*(endN2 l / 64):=by
  unfold endN2
  split<;>rfl
theorem su2_end (a C:Array Value) (g0 g1 t:Tq) (S:List Int) (hS:S.length=8) (p m q:Nat) (j:Nat→Value) :Runs Tryd.prog (cAt [1,1,1,1] (bdy Tryd.f11)) ⟨su2U_a a C g0 g1 t [] p m q j,suM2 a g0 g1 t S ++ [(C,(5,(0,0)))],c0,ch0⟩ (fun e s=>e= .ret∧resS (yty.enm tabS7 [mEnd] 2000003) s Tryd.f11.results.toList=some [.agg (wA .u8 32 (out2 S))]) 2000003:=by
  have hdl:=dL_eq (k:= .u32) hS
  have hs0:su2U_a a C g0 g1 t [] p m q j=su2Z_a a C g0 g1 t S (fun x=>(su2U_a a C g0 g1 t [] p m q j).getD x undef):=rfl
  rw[hs0]
  refine(su2Z_r a C g0 g1 t S _ (by rw[hdl]) (wA_one _ _ _)).mono ?_
  rintro e s ⟨rfl,c,ch,hs⟩
  rw[hdl] at hs
  subst hs
  generalize out2 S=X
  exact⟨rfl,by kernel_rfl⟩
theorem Sum2_c (a:Array Value) (g0 g1 t:Tq) (o l cp:Nat) (hb:bytesAt a o l) (hz:o+l≤a.size) (hc:l≤cp) (hl:l<1152921504606846976):Reads Tryd.prog 11 [(wA .u32 64 kL2,g0),(wA .u64 80 kL5,g1),(a,t)] [.slice (some ⟨2,o,none⟩) l cp] (.agg (wA .u8 32 (sum2 a o l))) 2:=by
  refine reads_runs (fk:=2000003) (yty.enm tabS7 [mEnd] 2000003) Tryd.func11 (c:=(bdy Tryd.f11)) (by kernel_rfl) ⟨len3 _ _ _,by decide⟩ (by kernel_rfl) (K:=fun e s=>e= .ret∧resS (yty.enm tabS7 [mEnd] 2000003) s Tryd.f11.results.toList=some [.agg (wA .u8 32 (sum2 a o l))]) ?_ (fun e s h=>⟨h.1,_,h.2,rfl⟩)
  rw[su2_shape]
  have hbg:bg2.length=8:=rfl
  refine runs_seq (su2A_r a g0 g1 t o l cp) (fun s h=> ?_) (fun e s hne h=>absurd h.1 hne)
  obtain⟨_,c,ch,rfl⟩:=h
  refine runs_seq (su2B_r a g0 g1 t o l cp (wA_one _ _ _)) (fun s h=> ?_) (fun e s hne h=>absurd h.1 hne)
  obtain⟨_,c,ch,rfl⟩:=h
  refine runs_seq (K1:=fun e s=>e= .normal∧∃ p m q j c ch,s=⟨su2T_a a g0 g1 t o l cp [] p m q j,suM2 a g0 g1 t (fS2 bg2 a o (l / 64)),c,ch⟩) ?_ (fun s h=> ?_) (fun e s hne h=>absurd h.1 hne)
  · refine runs_seq (su2C_r a g0 g1 t o l cp) (fun s h => ?_) (fun e s hne h => absurd h.1 hne)
    obtain⟨_,c,ch,hs⟩:=h
    have hs':s=⟨su2T_a a g0 g1 t o l cp [] o l cp (fun x=>s.tm.getD x undef),suM2 a g0 g1 t bg2,c,ch⟩:=by subst hs;rfl
    rw[hs']
    refine runs_block (su2_l1 a g0 g1 t o l cp hb hc bg2 hbg _) ?_
    rintro e s ⟨rfl,h⟩
    exact .inl ⟨rfl,rfl,h⟩
  obtain⟨_,p,m,q,j,c,ch,rfl⟩:=h
  have hS1:=fS2_len hbg a o (l / 64)
  unfold sum2
  generalize fS2 bg2 a o (l / 64)=S1 at hS1 ⊢
  have hbC:=end2_bytes hb
  rw[endN2_mul l] at hbC
  refine runs_seq (K1:=fun e s=>e= .normal∧∃ p m q j c ch,s=⟨su2U_a a (endC2 a o l) g0 g1 t [] p m q j,suM2 a g0 g1 t (fS2 S1 (endC2 a o l) 0 (endN2 l / 64)) ++ [(endC2 a o l,(5,(0,0)))],c,ch⟩) ?_ (fun s h=> ?_) (fun e s hne h=>absurd h.1 hne)
  · have hs0 : su2T_a a g0 g1 t o l cp [] p m q j = su2D_a a g0 g1 t o l cp S1 p m q (fun x => (su2T_a a g0 g1 t o l cp [] p m q j).getD x undef) := rfl
    rw[hs0]
    refine runs_seq (su2D_r a g0 g1 t o l cp S1 p m q _ ⟨hb,hz,hc,hl⟩) (fun s h=> ?_) (fun e s hne h=>absurd h.1 hne)
    obtain⟨_,c,ch,hs⟩:=h
    have hs':s=⟨su2U_a a (endC2 a o l) g0 g1 t [] 0 (endN2 l) (endN2 l) (fun x=>s.tm.getD x undef),suM2 a g0 g1 t S1 ++ [(endC2 a o l,(5,(0,0)))],c,ch⟩:=by subst hs;rfl
    rw[hs']
    generalize endC2 a o l=C at hbC ⊢
    rw[endN2_mul l]
    generalize endN2 l / 64=z at hbC ⊢
    rw[Nat.mul_div_cancel_left z (show 0<64 by decide)]
    refine runs_block (su2_l2 a C g0 g1 t z hbC S1 hS1 _) ?_
    rintro e s ⟨rfl,h⟩
    exact .inl ⟨rfl,rfl,h⟩
  obtain⟨_,p,m,q,j,c,ch,rfl⟩:=h
  exact su2_end a _ g0 g1 t _ (fS2_len hS1 _ _ _) p m q j
def sumN2:List Int:=out2 (bhd2 bg2 (fun i=>wd2 (wA .u8 64 nilL2) (0+4*i)))
theorem SumN2_c (g0 g1:Tq):Reads Tryd.prog 11 [(wA .u32 64 kL2,g0),(wA .u64 80 kL5,g1)] [.slice none 0 0] (.agg (wA .u8 32 sumN2)) 2:=by
  refine reads_runs (fk:=2000002) (yty.enm tabS7 [mEnd] 2000002) Tryd.func11 (c:=(bdy Tryd.f11)) (by kernel_rfl) ⟨len2 _ _,by decide⟩ (by kernel_rfl) (K:=fun e s=>e= .ret∧resS (yty.enm tabS7 [mEnd] 2000002) s Tryd.f11.results.toList=some [.agg (wA .u8 32 sumN2)]) ?_ (fun e s h=>⟨h.1,_,h.2,rfl⟩)
  have e1:dL (wA .u32 8 bg2)=bg2:=dL_eq rfl
  have e2:dL (wA .u32 8 (bhd2 bg2 (fun i=>wd2 (wA .u8 64 nilL2) (0+4*i))))=bhd2 bg2 (fun i=>wd2 (wA .u8 64 nilL2) (0+4*i)):=dL_eq rfl
  refine(su2N_r g0 g1 (wA_one _ _ _) ⟨rfl,rfl,by rw[e1],wA_bytes (bt_pad (fun i _=> ?_)),by decide,by decide⟩ (wA_one _ _ _) (by rw[e1,e2]) (wA_one _ _ _)).mono ?_
  · have := bt_tl (a := #[]) (p := 0) (r := 0) (fun j h => by omega) i
    exact this
  · rintro e s ⟨rfl, c, ch, hs⟩
    rw[e1,e2] at hs
    subst hs
    unfold sumN2
    generalize bhd2 bg2 (fun i=>wd2 (wA .u8 64 nilL2) (0+4*i))=S
    generalize out2 S=X
    exact⟨rfl,by kernel_rfl⟩
def fS5 (S:List Int) (a:Array Value) (o:Nat):Nat→List Int
  |0=>S
  |j+1=>bhd5 (fS5 S a o j) (fun i=>wd5 a (o+128*j+8*i))
theorem fS5_len {S:List Int} (hS:S.length=8) (a:Array Value) (o:Nat):∀ j,(fS5 S a o j).length=8
  |0=>hS
  |j+1=>rfl
def suM5 (a:Array Value) (g0 g1 t:Tq) (S:List Int):List Mb:= [(wA .u32 64 kL2,g0),(wA .u64 80 kL5,g1),(a,t),(wA .u8 64 [],(29,(0,0))),(wA .u64 8 S,(60,(0,0)))]
theorem su5_l1 (a:Array Value) (g0 g1 t:Tq) (o l cp:Nat) (hb:bytesAt a o l) (hc:l≤cp) (S:List Int) (hS:S.length=8) (j0:Nat→Value) :Runs Tryd.prog (.loop (cAt [1,1,0,1,0,0] (bdy Tryd.f26))) ⟨su5T_a a g0 g1 t o l cp [] o l cp j0,suM5 a g0 g1 t S,c0,ch0⟩ (fun e s=>e= .exit 0∧∃ p m q j c ch,s=⟨su5T_a a g0 g1 t o l cp [] p m q j,suM5 a g0 g1 t (fS5 S a o (l / 128)),c,ch⟩) 2000003:=by
  refine runs_loop (fun M s=>∃ k p q j c ch,128*k≤l∧M=l / 128 - k∧q+128*k=cp∧(q=0∨p=o+128*k)∧s=⟨su5T_a a g0 g1 t o l cp [] p (l - 128*k) q j,suM5 a g0 g1 t (fS5 S a o k),c,ch⟩) (l / 128) ⟨0,o,cp,j0,c0,ch0,by omega,rfl,rfl,.inr rfl,rfl⟩ ?_
  rintro M s ⟨k,p,q,j,c,ch,hk,rfl,hq,hp,rfl⟩
  have hlen:=fS5_len hS a o k
  by_cases h:128≤l - 128*k
  · have hq0 : q ≠ 0 := by omega
    have hp':p=o+128*k:=by rcases hp with h|h;exact absurd h hq0;exact h
    have ho:(if q=0 then p else p+0*1)=o+128*k:=by rw[if_neg hq0,hp'];omega
    have hdl:=dL_eq (k:= .u64) hlen
    refine(su5T_r a g0 g1 t o l cp (fS5 S a o k) p (l - 128*k) q j ⟨⟨trivial,by decide⟩,by decide,by omega⟩ ⟨rfl,rfl,by rw[hdl],by rw[ho];exact hb.sub (by omega),by decide,by omega⟩ (wA_one _ _ _) ⟨(tt1 (by decide)),h,by omega⟩ (decide_eq_true (by omega))).mono ?_
    rintro e s ⟨rfl,c,ch,hs⟩
    rw[hdl,ho] at hs
    refine .inl ⟨rfl,l / 128 - (k+1),by omega,k+1,(if q=128 then p else p+128*1),q - 128,fun q=>s.tm.getD q undef,c,ch,by omega,rfl,by omega,?_,?_⟩
    · by_cases e : q = 128
      · left;omega
      · right;rw[if_neg e,hp'];omega
    · rw [show l - 128 * (k + 1) = l - 128 * k - 128 by omega]
      subst hs
      rfl
  · have : k = l / 128 := by omega
    subst this
    refine(su5X_r a g0 g1 t o l cp (fS5 S a o (l / 128)) p (l - 128*(l / 128)) q j (decide_eq_false (by omega))).mono ?_
    rintro e s ⟨rfl,c,ch,hs⟩
    refine .inr ⟨by simp,rfl,p,l - 128*(l / 128),q,fun q=>s.tm.getD q undef,c,ch,?_⟩
    subst hs
    rfl
theorem su5_l2 (a C:Array Value) (g0 g1 t:Tq) (z:Nat) (hb:bytesAt C 0 (128*z)) (S:List Int) (hS:S.length=8) (j0:Nat→Value) :Runs Tryd.prog (.loop (cAt [1,1,1,0,1,0,0] (bdy Tryd.f26))) ⟨su5U_a a C g0 g1 t [] 0 (128*z) (128*z) j0,suM5 a g0 g1 t S ++ [(C,(5,(0,0)))],c0,ch0⟩ (fun e s=>e= .exit 2∧∃ p m q j c ch,s=⟨su5U_a a C g0 g1 t [] p m q j,suM5 a g0 g1 t (fS5 S C 0 z) ++ [(C,(5,(0,0)))],c,ch⟩) 2000003:=by
  refine runs_loop (fun M s=>∃ k p q j c ch,k≤z∧M=z - k∧q+128*k=128*z∧(q=0∨p=0+128*k)∧s=⟨su5U_a a C g0 g1 t [] p (128*z - 128*k) q j,suM5 a g0 g1 t (fS5 S C 0 k) ++ [(C,(5,(0,0)))],c,ch⟩) z ⟨0,0,128*z,j0,c0,ch0,by omega,rfl,rfl,.inr rfl,rfl⟩ ?_
  rintro M s ⟨k,p,q,j,c,ch,hk,rfl,hq,hp,rfl⟩
  have hlen:=fS5_len hS C 0 k
  by_cases h:k<z
  · have hq0 : q ≠ 0 := by omega
    have hp':p=0+128*k:=by rcases hp with h|h;exact absurd h hq0;exact h
    have ho:(if q=0 then p else p+0*1)=0+128*k:=by rw[if_neg hq0,hp'];omega
    have hdl:=dL_eq (k:= .u64) hlen
    refine(su5U_r a C g0 g1 t (fS5 S C 0 k) p (128*z - 128*k) q j ⟨⟨trivial,by decide⟩,by decide,by omega⟩ ⟨rfl,rfl,by rw[hdl],by rw[ho];exact hb.sub (by omega),by decide,by omega⟩ (wA_one _ _ _) ⟨(tt1 (by decide)),by omega,by omega⟩ (decide_eq_true (by omega))).mono ?_
    rintro e s ⟨rfl,c,ch,hs⟩
    rw[hdl,ho] at hs
    refine .inl ⟨rfl,z - (k+1),by omega,k+1,(if q=128 then p else p+128*1),q - 128,fun q=>s.tm.getD q undef,c,ch,by omega,rfl,by omega,?_,?_⟩
    · by_cases e : q = 128
      · left;omega
      · right;rw[if_neg e,hp'];omega
    · rw [show 128 * z - 128 * (k + 1) = 128 * z - 128 * k - 128 by omega]
      subst hs
      rfl
  · have : k = z := by omega
    subst this
    refine(su5Y_r a C g0 g1 t (fS5 S C 0 k) p (128*k - 128*k) q j (decide_eq_false (by omega))).mono ?_
    rintro e s ⟨rfl,c,ch,hs⟩
    refine .inr ⟨by simp,rfl,p,128*k - 128*k,q,fun q=>s.tm.getD q undef,c,ch,?_⟩
    subst hs
    rfl
theorem su5_shape:(bdy Tryd.f26)= .seq (cAt [0] (bdy Tryd.f26)) (.seq (cAt [1,0] (bdy Tryd.f26)) (.seq (.seq (cAt [1,1,0,0] (bdy Tryd.f26)) (.block 0 (.loop (cAt [1,1,0,1,0,0] (bdy Tryd.f26))))) (.seq (.seq (cAt [1,1,1,0,0] (bdy Tryd.f26)) (.block 2 (.loop (cAt [1,1,1,0,1,0,0] (bdy Tryd.f26))))) (cAt [1,1,1,1] (bdy Tryd.f26))))):=by kernel_rfl
def sum5 (a:Array Value) (o l:Nat):List Int:=out5 (fS5 (fS5 bg5 a o (l / 128)) (endC5 a o l) 0 (endN5 l / 128))
theorem end5_bytes {a:Array Value} {o l:Nat} (hb:bytesAt a o l):bytesAt (endC5 a o l) 0 (endN5 l):=by
  have hle:=Nat.mod_le l 128
  refine wA_bytes (bt_pad (fun i _=> ?_))
  unfold tl5
  exact bt_tl (hb.sub (by omega)) i
theorem endN5_mul (l:Nat):endN5 l=128*(endN5 l / 128):=by
  unfold endN5
  split<;>rfl
theorem su5_end (a C:Array Value) (g0 g1 t:Tq) (S:List Int) (hS:S.length=8) (p m q:Nat) (j:Nat→Value) :Runs Tryd.prog (cAt [1,1,1,1] (bdy Tryd.f26)) ⟨su5U_a a C g0 g1 t [] p m q j,suM5 a g0 g1 t S ++ [(C,(5,(0,0)))],c0,ch0⟩ (fun e s=>e= .ret∧resS (yty.enm tabS7 [mEnd] 2000003) s Tryd.f26.results.toList=some [.agg (wA .u8 64 (out5 S))]) 2000003:=by
  have hdl:=dL_eq (k:= .u64) hS
  have hs0:su5U_a a C g0 g1 t [] p m q j=su5Z_a a C g0 g1 t S (fun x=>(su5U_a a C g0 g1 t [] p m q j).getD x undef):=rfl
  rw[hs0]
  refine(su5Z_r a C g0 g1 t S _ (by rw[hdl]) (wA_one _ _ _)).mono ?_
  rintro e s ⟨rfl,c,ch,hs⟩
  rw[hdl] at hs
  subst hs
  generalize out5 S=X
  exact⟨rfl,by kernel_rfl⟩
theorem Sum5_c (a:Array Value) (g0 g1 t:Tq) (o l cp:Nat) (hb:bytesAt a o l) (hz:o+l≤a.size) (hc:l≤cp) (hl:l<1152921504606846976):Reads Tryd.prog 26 [(wA .u32 64 kL2,g0),(wA .u64 80 kL5,g1),(a,t)] [.slice (some ⟨2,o,none⟩) l cp] (.agg (wA .u8 64 (sum5 a o l))) 2:=by
  refine reads_runs (fk:=2000003) (yty.enm tabS7 [mEnd] 2000003) Tryd.func26 (c:=(bdy Tryd.f26)) (by kernel_rfl) ⟨len3 _ _ _,by decide⟩ (by kernel_rfl) (K:=fun e s=>e= .ret∧resS (yty.enm tabS7 [mEnd] 2000003) s Tryd.f26.results.toList=some [.agg (wA .u8 64 (sum5 a o l))]) ?_ (fun e s h=>⟨h.1,_,h.2,rfl⟩)
  rw[su5_shape]
  have hbg:bg5.length=8:=rfl
  refine runs_seq (su5A_r a g0 g1 t o l cp) (fun s h=> ?_) (fun e s hne h=>absurd h.1 hne)
  obtain⟨_,c,ch,rfl⟩:=h
  refine runs_seq (su5B_r a g0 g1 t o l cp (wA_one _ _ _)) (fun s h=> ?_) (fun e s hne h=>absurd h.1 hne)
  obtain⟨_,c,ch,rfl⟩:=h
  refine runs_seq (K1:=fun e s=>e= .normal∧∃ p m q j c ch,s=⟨su5T_a a g0 g1 t o l cp [] p m q j,suM5 a g0 g1 t (fS5 bg5 a o (l / 128)),c,ch⟩) ?_ (fun s h=> ?_) (fun e s hne h=>absurd h.1 hne)
  · refine runs_seq (su5C_r a g0 g1 t o l cp) (fun s h => ?_) (fun e s hne h => absurd h.1 hne)
    obtain⟨_,c,ch,hs⟩:=h
    have hs':s=⟨su5T_a a g0 g1 t o l cp [] o l cp (fun x=>s.tm.getD x undef),suM5 a g0 g1 t bg5,c,ch⟩:=by subst hs;rfl
    rw[hs']
    refine runs_block (su5_l1 a g0 g1 t o l cp hb hc bg5 hbg _) ?_
    rintro e s ⟨rfl,h⟩
    exact .inl ⟨rfl,rfl,h⟩
  obtain⟨_,p,m,q,j,c,ch,rfl⟩:=h
  have hS1:=fS5_len hbg a o (l / 128)
  unfold sum5
  generalize fS5 bg5 a o (l / 128)=S1 at hS1 ⊢
  have hbC:=end5_bytes hb
  rw[endN5_mul l] at hbC
  refine runs_seq (K1:=fun e s=>e= .normal∧∃ p m q j c ch,s=⟨su5U_a a (endC5 a o l) g0 g1 t [] p m q j,suM5 a g0 g1 t (fS5 S1 (endC5 a o l) 0 (endN5 l / 128)) ++ [(endC5 a o l,(5,(0,0)))],c,ch⟩) ?_ (fun s h=> ?_) (fun e s hne h=>absurd h.1 hne)
  · have hs0 : su5T_a a g0 g1 t o l cp [] p m q j = su5D_a a g0 g1 t o l cp S1 p m q (fun x => (su5T_a a g0 g1 t o l cp [] p m q j).getD x undef) := rfl
    rw[hs0]
    refine runs_seq (su5D_r a g0 g1 t o l cp S1 p m q _ ⟨hb,hz,hc,hl⟩) (fun s h=> ?_) (fun e s hne h=>absurd h.1 hne)
    obtain⟨_,c,ch,hs⟩:=h
    have hs':s=⟨su5U_a a (endC5 a o l) g0 g1 t [] 0 (endN5 l) (endN5 l) (fun x=>s.tm.getD x undef),suM5 a g0 g1 t S1 ++ [(endC5 a o l,(5,(0,0)))],c,ch⟩:=by subst hs;rfl
    rw[hs']
    generalize endC5 a o l=C at hbC ⊢
    rw[endN5_mul l]
    generalize endN5 l / 128=z at hbC ⊢
    rw[Nat.mul_div_cancel_left z (show 0<128 by decide)]
    refine runs_block (su5_l2 a C g0 g1 t z hbC S1 hS1 _) ?_
    rintro e s ⟨rfl,h⟩
    exact .inl ⟨rfl,rfl,h⟩
  obtain⟨_,p,m,q,j,c,ch,rfl⟩:=h
  exact su5_end a _ g0 g1 t _ (fS5_len hS1 _ _ _) p m q j
def sumN5:List Int:=out5 (bhd5 bg5 (fun i=>wd5 (wA .u8 128 nilL5) (0+8*i)))
theorem SumN5_c (g0 g1:Tq):Reads Tryd.prog 26 [(wA .u32 64 kL2,g0),(wA .u64 80 kL5,g1)] [.slice none 0 0] (.agg (wA .u8 64 sumN5)) 2:=by
  refine reads_runs (fk:=2000002) (yty.enm tabS7 [mEnd] 2000002) Tryd.func26 (c:=(bdy Tryd.f26)) (by kernel_rfl) ⟨len2 _ _,by decide⟩ (by kernel_rfl) (K:=fun e s=>e= .ret∧resS (yty.enm tabS7 [mEnd] 2000002) s Tryd.f26.results.toList=some [.agg (wA .u8 64 sumN5)]) ?_ (fun e s h=>⟨h.1,_,h.2,rfl⟩)
  have e1:dL (wA .u64 8 bg5)=bg5:=dL_eq rfl
  have e2:dL (wA .u64 8 (bhd5 bg5 (fun i=>wd5 (wA .u8 128 nilL5) (0+8*i))))=bhd5 bg5 (fun i=>wd5 (wA .u8 128 nilL5) (0+8*i)):=dL_eq rfl
  refine(su5N_r g0 g1 (wA_one _ _ _) ⟨rfl,rfl,by rw[e1],wA_bytes (bt_pad (fun i _=> ?_)),by decide,by decide⟩ (wA_one _ _ _) (by rw[e1,e2]) (wA_one _ _ _)).mono ?_
  · have := bt_tl (a := #[]) (p := 0) (r := 0) (fun j h => by omega) i
    exact this
  · rintro e s ⟨rfl, c, ch, hs⟩
    rw[e1,e2] at hs
    subst hs
    unfold sumN5
    generalize bhd5 bg5 (fun i=>wd5 (wA .u8 128 nilL5) (0+8*i))=S
    generalize out5 S=X
    exact⟨rfl,by kernel_rfl⟩
end Go.Proofs.YtcfnjcacdmkgbaaDoor
