import Derived.Test.YtpmkojinhebihaaDoorZSRotsShMM
set_option linter.unusedSimpArgs false
set_option linter.unusedVariables false
/-! Roots: entries, and what is so of all eighty. -/
namespace Go.Proofs.YtpmkojinhebihaaDoor
open Go.RowKit Go.Ev
def prm (n:Nat):Nat:=(prmF 1000 2 n).getD 0
theorem prm_all:(List.range 80).all (fun n=>(prmF 1000 2 n).isSome)=true:=by kernel_rfl
theorem prm_some {n:Nat} (h:n<80):prmF 1000 2 n=some (prm n):=by
  have:=List.all_eq_true.1 prm_all n (List.mem_range.2 h)
  unfold prm
  cases e:prmF 1000 2 n with
  |none=>rw[e] at this;cases this
  |some p=>rfl
def pPr6 : Entry Tryd.prog where
  f:=13
  g:=fun _ xs=>match xs with| [.int .i64 m]=>some (.int .i64 ((prm m.toNat:Nat):Int),(0≤m∧m<80))|_=>none
  ok := fun _ xs u c e hc w β _ _ => by
    split at e
    · rename_i m
      simp only[Option.some.injEq,Prod.mk.injEq] at e
      obtain⟨rfl,rfl⟩:=e
      have:=Prime_c m.toNat (prm m.toNat) (by omega) (prm_some (by omega)) w
      rw[Int.toNat_of_nonneg hc.1] at this
      exact this
    · cases e
  call:=call_of Tryd.func13 (by kernel_rfl) (by kernel_rfl)
def pCo6 : Entry Tryd.prog where
  f:=14
  g:=fun _ xs=>match xs with| [.int .i64 m]=>some (.int .u64 (kL5.getD m.toNat 0),(0≤m∧m<80))|_=>none
  ok := fun _ xs u c e hc w β _ _ => by
    split at e
    · rename_i m
      simp only[Option.some.injEq,Prod.mk.injEq] at e
      obtain⟨rfl,rfl⟩:=e
      have:=Const_c m.toNat (by omega) w
      rw[Int.toNat_of_nonneg hc.1] at this
      exact this
    · cases e
  call:=call_of Tryd.func14 (by kernel_rfl) (by kernel_rfl)
def pBe6 : Entry Tryd.prog where
  f:=18
  g:=fun _ xs=>match xs with| [.int .i64 m]=>some (.int .u64 (bg5.getD m.toNat 0),(0≤m∧m<8))|_=>none
  ok := fun _ xs u c e hc w β _ _ => by
    split at e
    · rename_i m
      simp only[Option.some.injEq,Prod.mk.injEq] at e
      obtain⟨rfl,rfl⟩:=e
      have:=Begs_c m.toNat (by omega) w
      rw[Int.toNat_of_nonneg hc.1] at this
      exact this
    · cases e
  call:=call_of Tryd.func18 (by kernel_rfl) (by kernel_rfl)
def pPw6 : Entry Tryd.prog where
  f:=16
  g:=fun _ xs=>match xs with| [.int .u64 u,.int .i64 w,.int .i64 n]=>if n=3 then some (.agg (wA .u64 16 (pwr (ofL u w) 3)),True) else if n=2 then some (.agg (wA .u64 16 (pwr (ofL u w) 2)),True) else none|_=>none
  ok := fun _ xs u c e hc w β _ _ => by
    split at e
    · split at e
      · rename_i h
        subst h
        simp only[Option.some.injEq,Prod.mk.injEq] at e
        obtain⟨rfl,rfl⟩:=e
        exact Pow3_c _ _ w
      · split at e
        · rename_i h
          subst h
          simp only[Option.some.injEq,Prod.mk.injEq] at e
          obtain⟨rfl,rfl⟩:=e
          exact Pow2_c _ _ w
        · cases e
    · cases e
  call:=call_of Tryd.func16 (by kernel_rfl) (by kernel_rfl)
def pPv6 : Entry Tryd.prog where
  f:=17
  g:=fun _ xs=>match xs with| [.int .u64 u,.int .i64 w,.int .i64 n]=>if n=3 then some (.agg (wA .u64 16 (pwr (up1 u w) 3)),(up1 u w).getD 0 0<65536) else if n=2 then some (.agg (wA .u64 16 (pwr (up1 u w) 2)),(up1 u w).getD 0 0<65536) else none|_=>none
  ok := fun _ xs u c e hc w β _ _ => by
    split at e
    · split at e
      · rename_i h
        subst h
        simp only[Option.some.injEq,Prod.mk.injEq] at e
        obtain⟨rfl,rfl⟩:=e
        exact PowV3_c _ _ hc w
      · split at e
        · rename_i h
          subst h
          simp only[Option.some.injEq,Prod.mk.injEq] at e
          obtain⟨rfl,rfl⟩:=e
          exact PowV2_c _ _ hc w
        · cases e
    · cases e
  call:=call_of Tryd.func17 (by kernel_rfl) (by kernel_rfl)
def pUn6 : Entry Tryd.prog where
  f:=15
  g:=fun _ xs=>match xs with| [.agg a,.int .i64 p,.int .i64 b]=>if b=192 then some (.bool (und (dL a) (lset 16 [] 12 (IntKind.u64.wrap p)) 16),a=wA .u64 16 (dL a)) else if b=128 then some (.bool (und (dL a) (lset 16 [] 8 (IntKind.u64.wrap p)) 16),a=wA .u64 16 (dL a)) else none|_=>none
  ok := fun _ xs u c e hc w β _ _ => by
    split at e
    · rename_i a p b
      split at e
      · rename_i h
        subst h
        simp only[Option.some.injEq,Prod.mk.injEq] at e
        obtain⟨rfl,rfl⟩:=e
        have:=Under192_c (dL a) p w
        rw[← hc] at this
        exact this
      · split at e
        · rename_i h
          subst h
          simp only[Option.some.injEq,Prod.mk.injEq] at e
          obtain⟨rfl,rfl⟩:=e
          have:=Under128_c (dL a) p w
          rw[← hc] at this
          exact this
        · cases e
    · cases e
  call:=call_of Tryd.func15 (by kernel_rfl) (by kernel_rfl)
def tabS11:List (Entry Tryd.prog):=pPr6 :: pCo6 :: pBe6 :: pPw6 :: pPv6 :: pUn6 :: tabS10
def crF (p:Nat):Nat→Nat→Nat
  |0,w=>w
  |f+1,w=>if (w+1)*(w+1)*(w+1)≤p then crF p f (w+1) else w
def sqF (p:Nat):Nat→Nat→Nat
  |0,w=>w
  |f+1,w=>if (w+1)*(w+1)≤p then sqF p f (w+1) else w
def okC (n:Nat):Bool:=und (dL (wA .u64 16 (pwr (ofL (kL5.getD n 0) (crF (prm n) 30 1:Nat)) 3))) (lset 16 [] 12 (IntKind.u64.wrap (prm n:Nat))) 16 && !und (dL (wA .u64 16 (pwr (up1 (kL5.getD n 0) (crF (prm n) 30 1:Nat)) 3))) (lset 16 [] 12 (IntKind.u64.wrap (prm n:Nat))) 16 && decide ((up1 (kL5.getD n 0) (crF (prm n) 30 1:Nat)).getD 0 0<65536)
end Go.Proofs.YtpmkojinhebihaaDoor

set_option linter.unusedSimpArgs false
set_option linter.unusedVariables false
/-! ShaRoots: pieces. -/
namespace Go.Proofs.YtpmkojinhebihaaDoor
open Go.RowKit Go.Ev
def rtA_h (i:Nat):Hn:=⟨0,[],[],[],[]⟩
def rtA_a (g0 g1:Tq) (k:Nat):List Value:= [.int .u8 (k:Int),undef,undef,undef,undef,undef,undef,undef,undef,undef,undef,undef,undef,undef,undef,undef,undef,undef,undef,undef,undef,undef,undef,undef,undef,undef,undef,undef,undef,undef,undef,undef,undef,undef,undef,undef,undef,undef,undef,undef,undef,undef,undef,undef,undef,undef,undef,undef,undef,undef,undef,undef,undef,undef,undef,undef,undef,undef,undef,undef,undef,undef,undef,undef,undef,undef,undef,undef]
def rtA_b (g0 g1:Tq) (k:Nat):List Value:= [.int .u8 (k:Int),undef,.bool false,undef,undef,undef,undef,undef,undef,undef,undef,undef,undef,undef,undef,undef,undef,undef,undef,undef,undef,undef,undef,undef,undef,undef,undef,undef,undef,undef,undef,undef,undef,undef,undef,undef,undef,undef,undef,undef,undef,undef,undef,undef,undef,undef,undef,undef,undef,undef,undef,undef,undef,undef,undef,undef,undef,undef,undef,undef,undef,undef,undef,undef,undef,undef,undef,undef]
theorem rtA_0 (g0 g1:Tq) (k:Nat):evC (yty.enm tabS11 [mEnd] 2000002) rtA_h (cAt [0] (bdy Tryd.f6)) ⟨rtA_a g0 g1 k,[((wA .u32 64 kL2),g0),((wA .u64 80 kL5),g1)],True,[]⟩=some (.normal,⟨rtA_b g0 g1 k,[((wA .u32 64 kL2),g0),((wA .u64 80 kL5),g1)],(True∧True),[]⟩):=by kernel_rfl
theorem rtA_r (g0 g1:Tq) (k:Nat)    {c0:Prop} {ch0:List (Option Value)}:Runs Tryd.prog (cAt [0] (bdy Tryd.f6)) ⟨rtA_a g0 g1 k,[((wA .u32 64 kL2),g0),((wA .u64 80 kL5),g1)],c0,ch0⟩ (fun e s=>e= .normal∧∃ c ch,s=⟨rtA_b g0 g1 k,[((wA .u32 64 kL2),g0),((wA .u64 80 kL5),g1)],c,ch⟩) 2000002:=by
  refine(runs_ev mixed [] (rtA_0 g0 g1 k ) ⟨trivial,trivial⟩).mono ?_
  rintro e s ⟨rfl,rfl⟩
  exact⟨rfl,_,_,rfl⟩
def rtB_h (i:Nat):Hn:=⟨0,[],[],[],[]⟩
def rtB_a (g0 g1:Tq) (k:Nat):List Value:= [.int .u8 (k:Int),undef,.bool false,undef,undef,undef,undef,undef,undef,undef,undef,undef,undef,undef,undef,undef,undef,undef,undef,undef,undef,undef,undef,undef,undef,undef,undef,undef,undef,undef,undef,undef,undef,undef,undef,undef,undef,undef,undef,undef,undef,undef,undef,undef,undef,undef,undef,undef,undef,undef,undef,undef,undef,undef,undef,undef,undef,undef,undef,undef,undef,undef,undef,undef,undef,undef,undef,undef]
def rtB_b (g0 g1:Tq) (k:Nat):List Value:= [.int .u8 (k:Int),undef,.bool false,.int .i64 ((k%80:Nat):Int),undef,undef,undef,undef,undef,.int .u8 (k:Int),.int .i64 (k:Int),.int .i64 ((k%80:Nat):Int),undef,undef,undef,undef,undef,undef,undef,undef,undef,undef,undef,undef,undef,undef,undef,undef,undef,undef,undef,undef,undef,undef,undef,undef,undef,undef,undef,undef,undef,undef,undef,undef,undef,undef,undef,undef,undef,undef,undef,undef,undef,undef,undef,undef,undef,undef,undef,undef,undef,undef,undef,undef,undef,undef,undef,undef]
theorem rtB_0 (g0 g1:Tq) (k:Nat):evC (yty.enm tabS11 [mEnd] 2000002) rtB_h (cAt [1,0] (bdy Tryd.f6)) ⟨rtB_a g0 g1 k,[((wA .u32 64 kL2),g0),((wA .u64 80 kL5),g1)],True,[some (.int .i64 (k:Int)),some (.int .i64 ((k%80:Nat):Int))]⟩=some (.normal,⟨rtB_b g0 g1 k,[((wA .u32 64 kL2),g0),((wA .u64 80 kL5),g1)],((((True∧True)∧(True∧(IntKind.i64.wrap (k:Int))=(k:Int)))∧(((80:Int)≠0)∧(Int.tmod (k:Int) 80)=((k%80:Nat):Int)))∧True),[]⟩):=by kernel_rfl
theorem rtB_r (g0 g1:Tq) (k:Nat)   (q0:(True∧(IntKind.i64.wrap (k:Int))=(k:Int))) (q1:(((80:Int)≠0)∧(Int.tmod (k:Int) 80)=((k%80:Nat):Int)))  {c0:Prop} {ch0:List (Option Value)}:Runs Tryd.prog (cAt [1,0] (bdy Tryd.f6)) ⟨rtB_a g0 g1 k,[((wA .u32 64 kL2),g0),((wA .u64 80 kL5),g1)],c0,ch0⟩ (fun e s=>e= .normal∧∃ c ch,s=⟨rtB_b g0 g1 k,[((wA .u32 64 kL2),g0),((wA .u64 80 kL5),g1)],c,ch⟩) 2000002:=by
  refine(runs_ev mixed [some (.int .i64 (k:Int)),some (.int .i64 ((k%80:Nat):Int))] (rtB_0 g0 g1 k ) ⟨⟨⟨⟨trivial,trivial⟩,q0⟩,q1⟩,trivial⟩).mono ?_
  rintro e s ⟨rfl,rfl⟩
  exact⟨rfl,_,_,rfl⟩
def rtC_h (i:Nat):Hn:=⟨0,[],[],[],[]⟩
def rtC_a (g0 g1:Tq) (n:Nat) (j:Nat→Value):List Value:= [j 0,j 1,j 2,.int .i64 (n:Int),j 4,j 5,j 6,j 7,j 8,j 9,j 10,j 11,j 12,j 13,j 14,j 15,j 16,j 17,j 18,j 19,j 20,j 21,j 22,j 23,j 24,j 25,j 26,j 27,j 28,j 29,j 30,j 31,j 32,j 33,j 34,j 35,j 36,j 37,j 38,j 39,j 40,j 41,j 42,j 43,j 44,j 45,j 46,j 47,j 48,j 49,j 50,j 51,j 52,j 53,j 54,j 55,j 56,j 57,j 58,j 59,j 60,j 61,j 62,j 63,j 64,j 65,j 66,j 67]
def rtC_b (g0 g1:Tq) (n:Nat) (j:Nat→Value):List Value:= [j 0,j 1,j 2,.int .i64 (n:Int),.int .i64 ((prm (Int.toNat (n:Int)):Nat):Int),j 5,j 6,j 7,j 8,j 9,j 10,j 11,.int .i64 (n:Int),.int .i64 ((prm (Int.toNat (n:Int)):Nat):Int),j 14,j 15,j 16,j 17,j 18,j 19,j 20,j 21,j 22,j 23,j 24,j 25,j 26,j 27,j 28,j 29,j 30,j 31,j 32,j 33,j 34,j 35,j 36,j 37,j 38,j 39,j 40,j 41,j 42,j 43,j 44,j 45,j 46,j 47,j 48,j 49,j 50,j 51,j 52,j 53,j 54,j 55,j 56,j 57,j 58,j 59,j 60,j 61,j 62,j 63,j 64,j 65,j 66,j 67]
theorem rtC_0 (g0 g1:Tq) (n:Nat) (j:Nat→Value):evC (yty.enm tabS11 [mEnd] 2000002) rtC_h (cAt [1,1,0] (bdy Tryd.f6)) ⟨rtC_a g0 g1 n j,[((wA .u32 64 kL2),g0),((wA .u64 80 kL5),g1)],True,[]⟩=some (.normal,⟨rtC_b g0 g1 n j,[((wA .u32 64 kL2),g0),((wA .u64 80 kL5),g1)],(((True∧True)∧(0≤(n:Int)∧(n:Int)<80))∧True),[]⟩):=by kernel_rfl
theorem rtC_r (g0 g1:Tq) (n:Nat) (j:Nat→Value)  (q0:(0≤(n:Int)∧(n:Int)<80))  {c0:Prop} {ch0:List (Option Value)}:Runs Tryd.prog (cAt [1,1,0] (bdy Tryd.f6)) ⟨rtC_a g0 g1 n j,[((wA .u32 64 kL2),g0),((wA .u64 80 kL5),g1)],c0,ch0⟩ (fun e s=>e= .normal∧∃ c ch,s=⟨rtC_b g0 g1 n j,[((wA .u32 64 kL2),g0),((wA .u64 80 kL5),g1)],c,ch⟩) 2000002:=by
  refine(runs_ev mixed [] (rtC_0 g0 g1 n j) ⟨⟨⟨trivial,trivial⟩,q0⟩,trivial⟩).mono ?_
  rintro e s ⟨rfl,rfl⟩
  exact⟨rfl,_,_,rfl⟩
def rtD_h (i:Nat):Hn:=⟨0,[],[],[],[]⟩
def rtD_a (g0 g1:Tq) (n p:Nat) (j:Nat→Value):List Value:= [j 0,j 1,j 2,.int .i64 (n:Int),.int .i64 (p:Int),j 5,j 6,j 7,j 8,j 9,j 10,j 11,j 12,j 13,j 14,j 15,j 16,j 17,j 18,j 19,j 20,j 21,j 22,j 23,j 24,j 25,j 26,j 27,j 28,j 29,j 30,j 31,j 32,j 33,j 34,j 35,j 36,j 37,j 38,j 39,j 40,j 41,j 42,j 43,j 44,j 45,j 46,j 47,j 48,j 49,j 50,j 51,j 52,j 53,j 54,j 55,j 56,j 57,j 58,j 59,j 60,j 61,j 62,j 63,j 64,j 65,j 66,j 67]
def rtD_b (g0 g1:Tq) (n p:Nat) (j:Nat→Value):List Value:= [j 0,j 1,j 2,.int .i64 (n:Int),.int .i64 (p:Int),.int .u64 (kL5.getD (Int.toNat (n:Int)) 0),j 6,j 7,j 8,j 9,j 10,j 11,j 12,j 13,.int .i64 (n:Int),.int .u64 (kL5.getD (Int.toNat (n:Int)) 0),j 16,j 17,j 18,j 19,j 20,j 21,j 22,j 23,j 24,j 25,j 26,j 27,j 28,j 29,j 30,j 31,j 32,j 33,j 34,j 35,j 36,j 37,j 38,j 39,j 40,j 41,j 42,j 43,j 44,j 45,j 46,j 47,j 48,j 49,j 50,j 51,j 52,j 53,j 54,j 55,j 56,j 57,j 58,j 59,j 60,j 61,j 62,j 63,j 64,j 65,j 66,j 67]
theorem rtD_0 (g0 g1:Tq) (n p:Nat) (j:Nat→Value):evC (yty.enm tabS11 [mEnd] 2000002) rtD_h (cAt [1,1,1,0] (bdy Tryd.f6)) ⟨rtD_a g0 g1 n p j,[((wA .u32 64 kL2),g0),((wA .u64 80 kL5),g1)],True,[]⟩=some (.normal,⟨rtD_b g0 g1 n p j,[((wA .u32 64 kL2),g0),((wA .u64 80 kL5),g1)],(((True∧True)∧(0≤(n:Int)∧(n:Int)<80))∧True),[]⟩):=by kernel_rfl
theorem rtD_r (g0 g1:Tq) (n p:Nat) (j:Nat→Value)  (q0:(0≤(n:Int)∧(n:Int)<80))  {c0:Prop} {ch0:List (Option Value)}:Runs Tryd.prog (cAt [1,1,1,0] (bdy Tryd.f6)) ⟨rtD_a g0 g1 n p j,[((wA .u32 64 kL2),g0),((wA .u64 80 kL5),g1)],c0,ch0⟩ (fun e s=>e= .normal∧∃ c ch,s=⟨rtD_b g0 g1 n p j,[((wA .u32 64 kL2),g0),((wA .u64 80 kL5),g1)],c,ch⟩) 2000002:=by
  refine(runs_ev mixed [] (rtD_0 g0 g1 n p j) ⟨⟨⟨trivial,trivial⟩,q0⟩,trivial⟩).mono ?_
  rintro e s ⟨rfl,rfl⟩
  exact⟨rfl,_,_,rfl⟩
def rtE_h (i:Nat):Hn:=⟨0,[],[],[],[]⟩
def rtE_a (g0 g1:Tq) (n p:Nat) (u:Int) (j:Nat→Value):List Value:= [j 0,j 1,j 2,.int .i64 (n:Int),.int .i64 (p:Int),.int .u64 u,j 6,j 7,j 8,j 9,j 10,j 11,j 12,j 13,j 14,j 15,j 16,j 17,j 18,j 19,j 20,j 21,j 22,j 23,j 24,j 25,j 26,j 27,j 28,j 29,j 30,j 31,j 32,j 33,j 34,j 35,j 36,j 37,j 38,j 39,j 40,j 41,j 42,j 43,j 44,j 45,j 46,j 47,j 48,j 49,j 50,j 51,j 52,j 53,j 54,j 55,j 56,j 57,j 58,j 59,j 60,j 61,j 62,j 63,j 64,j 65,j 66,j 67]
def rtE_b (g0 g1:Tq) (n p:Nat) (u:Int) (j:Nat→Value):List Value:= [j 0,j 1,j 2,.int .i64 (n:Int),.int .i64 (p:Int),.int .u64 u,.int .i64 1,j 7,j 8,j 9,j 10,j 11,j 12,j 13,j 14,j 15,j 16,j 17,j 18,j 19,j 20,j 21,j 22,j 23,j 24,j 25,j 26,j 27,j 28,j 29,j 30,j 31,j 32,j 33,j 34,j 35,j 36,j 37,j 38,j 39,j 40,j 41,j 42,j 43,j 44,j 45,j 46,j 47,j 48,j 49,j 50,j 51,j 52,j 53,j 54,j 55,j 56,j 57,j 58,j 59,j 60,j 61,j 62,j 63,j 64,j 65,j 66,j 67]
theorem rtE_0 (g0 g1:Tq) (n p:Nat) (u:Int) (j:Nat→Value):evC (yty.enm tabS11 [mEnd] 2000002) rtE_h (cAt [1,1,1,1,0] (bdy Tryd.f6)) ⟨rtE_a g0 g1 n p u j,[((wA .u32 64 kL2),g0),((wA .u64 80 kL5),g1)],True,[]⟩=some (.normal,⟨rtE_b g0 g1 n p u j,[((wA .u32 64 kL2),g0),((wA .u64 80 kL5),g1)],(True∧True),[]⟩):=by kernel_rfl
theorem rtE_r (g0 g1:Tq) (n p:Nat) (u:Int) (j:Nat→Value)   {c0:Prop} {ch0:List (Option Value)}:Runs Tryd.prog (cAt [1,1,1,1,0] (bdy Tryd.f6)) ⟨rtE_a g0 g1 n p u j,[((wA .u32 64 kL2),g0),((wA .u64 80 kL5),g1)],c0,ch0⟩ (fun e s=>e= .normal∧∃ c ch,s=⟨rtE_b g0 g1 n p u j,[((wA .u32 64 kL2),g0),((wA .u64 80 kL5),g1)],c,ch⟩) 2000002:=by
  refine(runs_ev mixed [] (rtE_0 g0 g1 n p u j) ⟨trivial,trivial⟩).mono ?_
  rintro e s ⟨rfl,rfl⟩
  exact⟨rfl,_,_,rfl⟩
def rtT_h (i:Nat):Hn:=⟨0,[],[],[],[]⟩
def rtT_a (g0 g1:Tq) (n p w:Nat) (u:Int) (j:Nat→Value):List Value:= [j 0,j 1,j 2,.int .i64 (n:Int),.int .i64 (p:Int),.int .u64 u,.int .i64 (w:Int),j 7,j 8,j 9,j 10,j 11,j 12,j 13,j 14,j 15,j 16,j 17,j 18,j 19,j 20,j 21,j 22,j 23,j 24,j 25,j 26,j 27,j 28,j 29,j 30,j 31,j 32,j 33,j 34,j 35,j 36,j 37,j 38,j 39,j 40,j 41,j 42,j 43,j 44,j 45,j 46,j 47,j 48,j 49,j 50,j 51,j 52,j 53,j 54,j 55,j 56,j 57,j 58,j 59,j 60,j 61,j 62,j 63,j 64,j 65,j 66,j 67]
def rtT_b (g0 g1:Tq) (n p w:Nat) (u:Int) (j:Nat→Value):List Value:= [j 0,j 1,j 2,.int .i64 (n:Int),.int .i64 (p:Int),.int .u64 u,.int .i64 ((w+1:Nat):Int),j 7,j 8,j 9,j 10,j 11,j 12,j 13,j 14,j 15,.int .i64 (w:Int),.int .i64 ((w+1:Nat):Int),.int .i64 (w:Int),.int .i64 ((w+1:Nat):Int),.int .i64 (((w+1)*(w+1):Nat):Int),.int .i64 (w:Int),.int .i64 ((w+1:Nat):Int),.int .i64 (((w+1)*(w+1)*(w+1):Nat):Int),.int .i64 (p:Int),.bool true,.int .i64 (w:Int),.int .i64 ((w+1:Nat):Int),j 28,j 29,j 30,j 31,j 32,j 33,j 34,j 35,j 36,j 37,j 38,j 39,j 40,j 41,j 42,j 43,j 44,j 45,j 46,j 47,j 48,j 49,j 50,j 51,j 52,j 53,j 54,j 55,j 56,j 57,j 58,j 59,j 60,j 61,j 62,j 63,j 64,j 65,j 66,j 67]
theorem rtT_0 (g0 g1:Tq) (n p w:Nat) (u:Int) (j:Nat→Value):evC (yty.enm tabS11 [mEnd] 2000002) rtT_h (cAt [1,1,1,1,1,0,0,0] (bdy Tryd.f6)) ⟨rtT_a g0 g1 n p w u j,[((wA .u32 64 kL2),g0),((wA .u64 80 kL5),g1)],True,[some (.int .i64 ((w+1:Nat):Int)),some (.int .i64 ((w+1:Nat):Int)),some (.int .i64 (((w+1)*(w+1):Nat):Int)),some (.int .i64 ((w+1:Nat):Int)),some (.int .i64 (((w+1)*(w+1)*(w+1):Nat):Int)),some (.bool true),some (.int .i64 ((w+1:Nat):Int))]⟩=some (.normal,⟨rtT_b g0 g1 n p w u j,[((wA .u32 64 kL2),g0),((wA .u64 80 kL5),g1)],(((((((((((((True∧True)∧(True∧(IntKind.i64.wrap ((w:Int)+1))=((w+1:Nat):Int)))∧True)∧(True∧(IntKind.i64.wrap ((w:Int)+1))=((w+1:Nat):Int)))∧(True∧(IntKind.i64.wrap (((w+1:Nat):Int)*((w+1:Nat):Int)))=(((w+1)*(w+1):Nat):Int)))∧True)∧(True∧(IntKind.i64.wrap ((w:Int)+1))=((w+1:Nat):Int)))∧(True∧(IntKind.i64.wrap ((((w+1)*(w+1):Nat):Int)*((w+1:Nat):Int)))=(((w+1)*(w+1)*(w+1):Nat):Int)))∧True)∧(True∧(decide ((((w+1)*(w+1)*(w+1):Nat):Int)≤(p:Int)))=true))∧True)∧(True∧(IntKind.i64.wrap ((w:Int)+1))=((w+1:Nat):Int)))∧True),[]⟩):=by kernel_rfl
theorem rtT_r (g0 g1:Tq) (n p w:Nat) (u:Int) (j:Nat→Value)  (q0:(True∧(IntKind.i64.wrap ((w:Int)+1))=((w+1:Nat):Int))) (q1:(True∧(IntKind.i64.wrap ((w:Int)+1))=((w+1:Nat):Int))) (q2:(True∧(IntKind.i64.wrap (((w+1:Nat):Int)*((w+1:Nat):Int)))=(((w+1)*(w+1):Nat):Int))) (q3:(True∧(IntKind.i64.wrap ((w:Int)+1))=((w+1:Nat):Int))) (q4:(True∧(IntKind.i64.wrap ((((w+1)*(w+1):Nat):Int)*((w+1:Nat):Int)))=(((w+1)*(w+1)*(w+1):Nat):Int))) (q5:(True∧(IntKind.i64.wrap ((w:Int)+1))=((w+1:Nat):Int))) (h0:(decide ((((w+1)*(w+1)*(w+1):Nat):Int)≤(p:Int)))=true) {c0:Prop} {ch0:List (Option Value)}:Runs Tryd.prog (cAt [1,1,1,1,1,0,0,0] (bdy Tryd.f6)) ⟨rtT_a g0 g1 n p w u j,[((wA .u32 64 kL2),g0),((wA .u64 80 kL5),g1)],c0,ch0⟩ (fun e s=>e= .normal∧∃ c ch,s=⟨rtT_b g0 g1 n p w u j,[((wA .u32 64 kL2),g0),((wA .u64 80 kL5),g1)],c,ch⟩) 2000002:=by
  refine(runs_ev mixed [some (.int .i64 ((w+1:Nat):Int)),some (.int .i64 ((w+1:Nat):Int)),some (.int .i64 (((w+1)*(w+1):Nat):Int)),some (.int .i64 ((w+1:Nat):Int)),some (.int .i64 (((w+1)*(w+1)*(w+1):Nat):Int)),some (.bool true),some (.int .i64 ((w+1:Nat):Int))] (rtT_0 g0 g1 n p w u j) ⟨⟨⟨⟨⟨⟨⟨⟨⟨⟨⟨⟨⟨trivial,trivial⟩,q0⟩,trivial⟩,q1⟩,q2⟩,trivial⟩,q3⟩,q4⟩,trivial⟩,⟨trivial,h0⟩⟩,trivial⟩,q5⟩,trivial⟩).mono ?_
  rintro e s ⟨rfl,rfl⟩
  exact⟨rfl,_,_,rfl⟩
def rtX_h (i:Nat):Hn:=⟨0,[],[],[],[]⟩
def rtX_a (g0 g1:Tq) (n p w:Nat) (u:Int) (j:Nat→Value):List Value:= [j 0,j 1,j 2,.int .i64 (n:Int),.int .i64 (p:Int),.int .u64 u,.int .i64 (w:Int),j 7,j 8,j 9,j 10,j 11,j 12,j 13,j 14,j 15,j 16,j 17,j 18,j 19,j 20,j 21,j 22,j 23,j 24,j 25,j 26,j 27,j 28,j 29,j 30,j 31,j 32,j 33,j 34,j 35,j 36,j 37,j 38,j 39,j 40,j 41,j 42,j 43,j 44,j 45,j 46,j 47,j 48,j 49,j 50,j 51,j 52,j 53,j 54,j 55,j 56,j 57,j 58,j 59,j 60,j 61,j 62,j 63,j 64,j 65,j 66,j 67]
def rtX_b (g0 g1:Tq) (n p w:Nat) (u:Int) (j:Nat→Value):List Value:= [j 0,j 1,j 2,.int .i64 (n:Int),.int .i64 (p:Int),.int .u64 u,.int .i64 (w:Int),j 7,j 8,j 9,j 10,j 11,j 12,j 13,j 14,j 15,.int .i64 (w:Int),.int .i64 ((w+1:Nat):Int),.int .i64 (w:Int),.int .i64 ((w+1:Nat):Int),.int .i64 (((w+1)*(w+1):Nat):Int),.int .i64 (w:Int),.int .i64 ((w+1:Nat):Int),.int .i64 (((w+1)*(w+1)*(w+1):Nat):Int),.int .i64 (p:Int),.bool false,j 26,j 27,j 28,j 29,j 30,j 31,j 32,j 33,j 34,j 35,j 36,j 37,j 38,j 39,j 40,j 41,j 42,j 43,j 44,j 45,j 46,j 47,j 48,j 49,j 50,j 51,j 52,j 53,j 54,j 55,j 56,j 57,j 58,j 59,j 60,j 61,j 62,j 63,j 64,j 65,j 66,j 67]
theorem rtX_0 (g0 g1:Tq) (n p w:Nat) (u:Int) (j:Nat→Value):evC (yty.enm tabS11 [mEnd] 2000002) rtX_h (cAt [1,1,1,1,1,0,0,0] (bdy Tryd.f6)) ⟨rtX_a g0 g1 n p w u j,[((wA .u32 64 kL2),g0),((wA .u64 80 kL5),g1)],True,[some (.int .i64 ((w+1:Nat):Int)),some (.int .i64 ((w+1:Nat):Int)),some (.int .i64 (((w+1)*(w+1):Nat):Int)),some (.int .i64 ((w+1:Nat):Int)),some (.int .i64 (((w+1)*(w+1)*(w+1):Nat):Int)),some (.bool false)]⟩=some ((.exit 0),⟨rtX_b g0 g1 n p w u j,[((wA .u32 64 kL2),g0),((wA .u64 80 kL5),g1)],((((((((((True∧True)∧(True∧(IntKind.i64.wrap ((w:Int)+1))=((w+1:Nat):Int)))∧True)∧(True∧(IntKind.i64.wrap ((w:Int)+1))=((w+1:Nat):Int)))∧(True∧(IntKind.i64.wrap (((w+1:Nat):Int)*((w+1:Nat):Int)))=(((w+1)*(w+1):Nat):Int)))∧True)∧(True∧(IntKind.i64.wrap ((w:Int)+1))=((w+1:Nat):Int)))∧(True∧(IntKind.i64.wrap ((((w+1)*(w+1):Nat):Int)*((w+1:Nat):Int)))=(((w+1)*(w+1)*(w+1):Nat):Int)))∧True)∧(True∧(decide ((((w+1)*(w+1)*(w+1):Nat):Int)≤(p:Int)))=false)),[]⟩):=by kernel_rfl
theorem rtX_r (g0 g1:Tq) (n p w:Nat) (u:Int) (j:Nat→Value)  (q0:(True∧(IntKind.i64.wrap ((w:Int)+1))=((w+1:Nat):Int))) (q1:(True∧(IntKind.i64.wrap ((w:Int)+1))=((w+1:Nat):Int))) (q2:(True∧(IntKind.i64.wrap (((w+1:Nat):Int)*((w+1:Nat):Int)))=(((w+1)*(w+1):Nat):Int))) (q3:(True∧(IntKind.i64.wrap ((w:Int)+1))=((w+1:Nat):Int))) (q4:(True∧(IntKind.i64.wrap ((((w+1)*(w+1):Nat):Int)*((w+1:Nat):Int)))=(((w+1)*(w+1)*(w+1):Nat):Int))) (h0:(decide ((((w+1)*(w+1)*(w+1):Nat):Int)≤(p:Int)))=false) {c0:Prop} {ch0:List (Option Value)}:Runs Tryd.prog (cAt [1,1,1,1,1,0,0,0] (bdy Tryd.f6)) ⟨rtX_a g0 g1 n p w u j,[((wA .u32 64 kL2),g0),((wA .u64 80 kL5),g1)],c0,ch0⟩ (fun e s=>e=(.exit 0)∧∃ c ch,s=⟨rtX_b g0 g1 n p w u j,[((wA .u32 64 kL2),g0),((wA .u64 80 kL5),g1)],c,ch⟩) 2000002:=by
  refine(runs_ev mixed [some (.int .i64 ((w+1:Nat):Int)),some (.int .i64 ((w+1:Nat):Int)),some (.int .i64 (((w+1)*(w+1):Nat):Int)),some (.int .i64 ((w+1:Nat):Int)),some (.int .i64 (((w+1)*(w+1)*(w+1):Nat):Int)),some (.bool false)] (rtX_0 g0 g1 n p w u j) ⟨⟨⟨⟨⟨⟨⟨⟨⟨⟨trivial,trivial⟩,q0⟩,trivial⟩,q1⟩,q2⟩,trivial⟩,q3⟩,q4⟩,trivial⟩,⟨trivial,h0⟩⟩).mono ?_
  rintro e s ⟨rfl,rfl⟩
  exact⟨rfl,_,_,rfl⟩
def rtG_h (i:Nat):Hn:=⟨0,[],[],[],[]⟩
def rtG_a (g0 g1:Tq) (n p w:Nat) (u:Int) (j:Nat→Value):List Value:= [j 0,j 1,j 2,.int .i64 (n:Int),.int .i64 (p:Int),.int .u64 u,.int .i64 (w:Int),j 7,j 8,j 9,j 10,j 11,j 12,j 13,j 14,j 15,j 16,j 17,j 18,j 19,j 20,j 21,j 22,j 23,j 24,j 25,j 26,j 27,j 28,j 29,j 30,j 31,j 32,j 33,j 34,j 35,j 36,j 37,j 38,j 39,j 40,j 41,j 42,j 43,j 44,j 45,j 46,j 47,j 48,j 49,j 50,j 51,j 52,j 53,j 54,j 55,j 56,j 57,j 58,j 59,j 60,j 61,j 62,j 63,j 64,j 65,j 66,j 67]
def rtG_b (g0 g1:Tq) (n p w:Nat) (u:Int) (j:Nat→Value):List Value:= [j 0,j 1,j 2,.int .i64 (n:Int),.int .i64 (p:Int),.int .u64 u,.int .i64 (w:Int),j 7,j 8,j 9,j 10,j 11,j 12,j 13,j 14,j 15,j 16,j 17,j 18,j 19,j 20,j 21,j 22,j 23,j 24,j 25,j 26,j 27,.int .u64 u,.int .i64 (w:Int),.agg (wA .u64 16 (pwr (ofL u (w:Int)) 3)),.int .i64 (p:Int),.bool true,.bool false,.bool false,.int .u64 u,.int .i64 (w:Int),.agg (wA .u64 16 (pwr (up1 u (w:Int)) 3)),.int .i64 (p:Int),.bool false,.bool false,j 41,j 42,j 43,j 44,j 45,j 46,j 47,j 48,j 49,j 50,j 51,j 52,j 53,j 54,j 55,j 56,j 57,j 58,j 59,j 60,j 61,j 62,j 63,j 64,j 65,j 66,j 67]
theorem rtG_0 (g0 g1:Tq) (n p w:Nat) (u:Int) (j:Nat→Value):evC (yty.enm tabS11 [mEnd] 2000002) rtG_h (cAt [1,1,1,1,1,1,0] (bdy Tryd.f6)) ⟨rtG_a g0 g1 n p w u j,[((wA .u32 64 kL2),g0),((wA .u64 80 kL5),g1)],True,[some (.bool true),some (.bool false)]⟩=some (.normal,⟨rtG_b g0 g1 n p w u j,[((wA .u32 64 kL2),g0),((wA .u64 80 kL5),g1)],(((((((((((((True∧True)∧True)∧True)∧True)∧(((wA .u64 16 (pwr (ofL u (w:Int)) 3))=wA .u64 16 (dL (wA .u64 16 (pwr (ofL u (w:Int)) 3))))∧(und (dL (wA .u64 16 (pwr (ofL u (w:Int)) 3))) (lset 16 [] 12 (IntKind.u64.wrap (p:Int))) 16)=true))∧True)∧True)∧True)∧True)∧((up1 u (w:Int)).getD 0 0<65536))∧True)∧(((wA .u64 16 (pwr (up1 u (w:Int)) 3))=wA .u64 16 (dL (wA .u64 16 (pwr (up1 u (w:Int)) 3))))∧(und (dL (wA .u64 16 (pwr (up1 u (w:Int)) 3))) (lset 16 [] 12 (IntKind.u64.wrap (p:Int))) 16)=false))∧True),[]⟩):=by kernel_rfl
theorem rtG_r (g0 g1:Tq) (n p w:Nat) (u:Int) (j:Nat→Value)  (q0:((up1 u (w:Int)).getD 0 0<65536)) (h0:(und (dL (wA .u64 16 (pwr (ofL u (w:Int)) 3))) (lset 16 [] 12 (IntKind.u64.wrap (p:Int))) 16)=true) (h1:(und (dL (wA .u64 16 (pwr (up1 u (w:Int)) 3))) (lset 16 [] 12 (IntKind.u64.wrap (p:Int))) 16)=false) {c0:Prop} {ch0:List (Option Value)}:Runs Tryd.prog (cAt [1,1,1,1,1,1,0] (bdy Tryd.f6)) ⟨rtG_a g0 g1 n p w u j,[((wA .u32 64 kL2),g0),((wA .u64 80 kL5),g1)],c0,ch0⟩ (fun e s=>e= .normal∧∃ c ch,s=⟨rtG_b g0 g1 n p w u j,[((wA .u32 64 kL2),g0),((wA .u64 80 kL5),g1)],c,ch⟩) 2000002:=by
  refine(runs_ev mixed [some (.bool true),some (.bool false)] (rtG_0 g0 g1 n p w u j) ⟨⟨⟨⟨⟨⟨⟨⟨⟨⟨⟨⟨⟨trivial,trivial⟩,trivial⟩,trivial⟩,trivial⟩,⟨dw _,h0⟩⟩,trivial⟩,trivial⟩,trivial⟩,trivial⟩,q0⟩,trivial⟩,⟨dw _,h1⟩⟩,trivial⟩).mono ?_
  rintro e s ⟨rfl,rfl⟩
  exact⟨rfl,_,_,rfl⟩
def rtH_h (i:Nat):Hn:=⟨0,[],[],[],[]⟩
def rtH_a (g0 g1:Tq) (n p w:Nat) (u:Int) (j:Nat→Value):List Value:= [j 0,j 1,j 2,.int .i64 (n:Int),.int .i64 (p:Int),.int .u64 u,.int .i64 (w:Int),j 7,j 8,j 9,j 10,j 11,j 12,j 13,j 14,j 15,j 16,j 17,j 18,j 19,j 20,j 21,j 22,j 23,j 24,j 25,j 26,j 27,j 28,j 29,j 30,j 31,j 32,j 33,j 34,j 35,j 36,j 37,j 38,j 39,j 40,j 41,j 42,j 43,j 44,j 45,j 46,j 47,j 48,j 49,j 50,j 51,j 52,j 53,j 54,j 55,j 56,j 57,j 58,j 59,j 60,j 61,j 62,j 63,j 64,j 65,j 66,j 67]
def rtH_b (g0 g1:Tq) (n p w:Nat) (u:Int) (j:Nat→Value):List Value:= [j 0,j 1,j 2,.int .i64 (n:Int),.int .i64 (p:Int),.int .u64 u,.int .i64 (w:Int),j 7,j 8,j 9,j 10,j 11,j 12,j 13,j 14,j 15,j 16,j 17,j 18,j 19,j 20,j 21,j 22,j 23,j 24,j 25,j 26,j 27,j 28,j 29,j 30,j 31,j 32,j 33,j 34,j 35,j 36,j 37,j 38,j 39,j 40,.int .i64 (n:Int),.bool false,j 43,j 44,j 45,j 46,j 47,j 48,j 49,j 50,j 51,j 52,j 53,j 54,j 55,j 56,j 57,j 58,j 59,j 60,j 61,j 62,j 63,j 64,j 65,j 66,j 67]
theorem rtH_0 (g0 g1:Tq) (n p w:Nat) (u:Int) (j:Nat→Value):evC (yty.enm tabS11 [mEnd] 2000002) rtH_h (cAt [1,1,1,1,1,1,1,0] (bdy Tryd.f6)) ⟨rtH_a g0 g1 n p w u j,[((wA .u32 64 kL2),g0),((wA .u64 80 kL5),g1)],True,[some (.bool false)]⟩=some (.normal,⟨rtH_b g0 g1 n p w u j,[((wA .u32 64 kL2),g0),((wA .u64 80 kL5),g1)],((True∧True)∧(True∧(decide ((n:Int)<8))=false)),[]⟩):=by kernel_rfl
theorem rtH_r (g0 g1:Tq) (n p w:Nat) (u:Int) (j:Nat→Value)  (h0:(decide ((n:Int)<8))=false) {c0:Prop} {ch0:List (Option Value)}:Runs Tryd.prog (cAt [1,1,1,1,1,1,1,0] (bdy Tryd.f6)) ⟨rtH_a g0 g1 n p w u j,[((wA .u32 64 kL2),g0),((wA .u64 80 kL5),g1)],c0,ch0⟩ (fun e s=>e= .normal∧∃ c ch,s=⟨rtH_b g0 g1 n p w u j,[((wA .u32 64 kL2),g0),((wA .u64 80 kL5),g1)],c,ch⟩) 2000002:=by
  refine(runs_ev mixed [some (.bool false)] (rtH_0 g0 g1 n p w u j) ⟨⟨trivial,trivial⟩,⟨trivial,h0⟩⟩).mono ?_
  rintro e s ⟨rfl,rfl⟩
  exact⟨rfl,_,_,rfl⟩
def rtI_h (i:Nat):Hn:=⟨0,[],[],[],[]⟩
def rtI_a (g0 g1:Tq) (n p w:Nat) (u:Int) (j:Nat→Value):List Value:= [j 0,j 1,j 2,.int .i64 (n:Int),.int .i64 (p:Int),.int .u64 u,.int .i64 (w:Int),j 7,j 8,j 9,j 10,j 11,j 12,j 13,j 14,j 15,j 16,j 17,j 18,j 19,j 20,j 21,j 22,j 23,j 24,j 25,j 26,j 27,j 28,j 29,j 30,j 31,j 32,j 33,j 34,j 35,j 36,j 37,j 38,j 39,j 40,j 41,j 42,j 43,j 44,j 45,j 46,j 47,j 48,j 49,j 50,j 51,j 52,j 53,j 54,j 55,j 56,j 57,j 58,j 59,j 60,j 61,j 62,j 63,j 64,j 65,j 66,j 67]
def rtI_b (g0 g1:Tq) (n p w:Nat) (u:Int) (j:Nat→Value):List Value:= [j 0,j 1,j 2,.int .i64 (n:Int),.int .i64 (p:Int),.int .u64 u,.int .i64 (w:Int),j 7,j 8,j 9,j 10,j 11,j 12,j 13,j 14,j 15,j 16,j 17,j 18,j 19,j 20,j 21,j 22,j 23,j 24,j 25,j 26,j 27,j 28,j 29,j 30,j 31,j 32,j 33,j 34,j 35,j 36,j 37,j 38,j 39,j 40,.int .i64 (n:Int),.bool true,j 43,j 44,j 45,j 46,j 47,j 48,j 49,j 50,j 51,j 52,j 53,j 54,j 55,j 56,j 57,j 58,j 59,j 60,j 61,j 62,j 63,j 64,j 65,j 66,j 67]
theorem rtI_0 (g0 g1:Tq) (n p w:Nat) (u:Int) (j:Nat→Value):evC (yty.enm tabS11 [mEnd] 2000002) rtI_h (cAt [1,1,1,1,1,1,1,0,0] (bdy Tryd.f6)) ⟨rtI_a g0 g1 n p w u j,[((wA .u32 64 kL2),g0),((wA .u64 80 kL5),g1)],True,[some (.bool true)]⟩=some (.normal,⟨rtI_b g0 g1 n p w u j,[((wA .u32 64 kL2),g0),((wA .u64 80 kL5),g1)],((True∧True)∧(True∧(decide ((n:Int)<8))=true)),[]⟩):=by kernel_rfl
theorem rtI_r (g0 g1:Tq) (n p w:Nat) (u:Int) (j:Nat→Value)  (h0:(decide ((n:Int)<8))=true) {c0:Prop} {ch0:List (Option Value)}:Runs Tryd.prog (cAt [1,1,1,1,1,1,1,0,0] (bdy Tryd.f6)) ⟨rtI_a g0 g1 n p w u j,[((wA .u32 64 kL2),g0),((wA .u64 80 kL5),g1)],c0,ch0⟩ (fun e s=>e= .normal∧∃ c ch,s=⟨rtI_b g0 g1 n p w u j,[((wA .u32 64 kL2),g0),((wA .u64 80 kL5),g1)],c,ch⟩) 2000002:=by
  refine(runs_ev mixed [some (.bool true)] (rtI_0 g0 g1 n p w u j) ⟨⟨trivial,trivial⟩,⟨trivial,h0⟩⟩).mono ?_
  rintro e s ⟨rfl,rfl⟩
  exact⟨rfl,_,_,rfl⟩
def rtJ_h (i:Nat):Hn:=⟨0,[],[],[],[]⟩
def rtJ_a (g0 g1:Tq) (n p w:Nat) (u:Int) (j:Nat→Value):List Value:= [j 0,j 1,j 2,.int .i64 (n:Int),.int .i64 (p:Int),.int .u64 u,.int .i64 (w:Int),j 7,j 8,j 9,j 10,j 11,j 12,j 13,j 14,j 15,j 16,j 17,j 18,j 19,j 20,j 21,j 22,j 23,j 24,j 25,j 26,j 27,j 28,j 29,j 30,j 31,j 32,j 33,j 34,j 35,j 36,j 37,j 38,j 39,j 40,j 41,j 42,j 43,j 44,j 45,j 46,j 47,j 48,j 49,j 50,j 51,j 52,j 53,j 54,j 55,j 56,j 57,j 58,j 59,j 60,j 61,j 62,j 63,j 64,j 65,j 66,j 67]
def rtJ_b (g0 g1:Tq) (n p w:Nat) (u:Int) (j:Nat→Value):List Value:= [j 0,j 1,j 2,.int .i64 (n:Int),.int .i64 (p:Int),.int .u64 u,.int .i64 (w:Int),.int .u64 (bg5.getD (Int.toNat (n:Int)) 0),j 8,j 9,j 10,j 11,j 12,j 13,j 14,j 15,j 16,j 17,j 18,j 19,j 20,j 21,j 22,j 23,j 24,j 25,j 26,j 27,j 28,j 29,j 30,j 31,j 32,j 33,j 34,j 35,j 36,j 37,j 38,j 39,j 40,j 41,j 42,.int .i64 (n:Int),.int .u64 (bg5.getD (Int.toNat (n:Int)) 0),j 45,j 46,j 47,j 48,j 49,j 50,j 51,j 52,j 53,j 54,j 55,j 56,j 57,j 58,j 59,j 60,j 61,j 62,j 63,j 64,j 65,j 66,j 67]
theorem rtJ_0 (g0 g1:Tq) (n p w:Nat) (u:Int) (j:Nat→Value):evC (yty.enm tabS11 [mEnd] 2000002) rtJ_h (cAt [1,1,1,1,1,1,1,0,1,0,0] (bdy Tryd.f6)) ⟨rtJ_a g0 g1 n p w u j,[((wA .u32 64 kL2),g0),((wA .u64 80 kL5),g1)],True,[]⟩=some (.normal,⟨rtJ_b g0 g1 n p w u j,[((wA .u32 64 kL2),g0),((wA .u64 80 kL5),g1)],(((True∧True)∧(0≤(n:Int)∧(n:Int)<8))∧True),[]⟩):=by kernel_rfl
theorem rtJ_r (g0 g1:Tq) (n p w:Nat) (u:Int) (j:Nat→Value)  (q0:(0≤(n:Int)∧(n:Int)<8))  {c0:Prop} {ch0:List (Option Value)}:Runs Tryd.prog (cAt [1,1,1,1,1,1,1,0,1,0,0] (bdy Tryd.f6)) ⟨rtJ_a g0 g1 n p w u j,[((wA .u32 64 kL2),g0),((wA .u64 80 kL5),g1)],c0,ch0⟩ (fun e s=>e= .normal∧∃ c ch,s=⟨rtJ_b g0 g1 n p w u j,[((wA .u32 64 kL2),g0),((wA .u64 80 kL5),g1)],c,ch⟩) 2000002:=by
  refine(runs_ev mixed [] (rtJ_0 g0 g1 n p w u j) ⟨⟨⟨trivial,trivial⟩,q0⟩,trivial⟩).mono ?_
  rintro e s ⟨rfl,rfl⟩
  exact⟨rfl,_,_,rfl⟩
def rtK_h (i:Nat):Hn:=⟨0,[],[],[],[]⟩
def rtK_a (g0 g1:Tq) (n p w:Nat) (u v:Int) (j:Nat→Value):List Value:= [j 0,j 1,j 2,.int .i64 (n:Int),.int .i64 (p:Int),.int .u64 u,.int .i64 (w:Int),.int .u64 v,j 8,j 9,j 10,j 11,j 12,j 13,j 14,j 15,j 16,j 17,j 18,j 19,j 20,j 21,j 22,j 23,j 24,j 25,j 26,j 27,j 28,j 29,j 30,j 31,j 32,j 33,j 34,j 35,j 36,j 37,j 38,j 39,j 40,j 41,j 42,j 43,j 44,j 45,j 46,j 47,j 48,j 49,j 50,j 51,j 52,j 53,j 54,j 55,j 56,j 57,j 58,j 59,j 60,j 61,j 62,j 63,j 64,j 65,j 66,j 67]
def rtK_b (g0 g1:Tq) (n p w:Nat) (u v:Int) (j:Nat→Value):List Value:= [j 0,j 1,j 2,.int .i64 (n:Int),.int .i64 (p:Int),.int .u64 u,.int .i64 (w:Int),.int .u64 v,.int .i64 1,j 9,j 10,j 11,j 12,j 13,j 14,j 15,j 16,j 17,j 18,j 19,j 20,j 21,j 22,j 23,j 24,j 25,j 26,j 27,j 28,j 29,j 30,j 31,j 32,j 33,j 34,j 35,j 36,j 37,j 38,j 39,j 40,j 41,j 42,j 43,j 44,j 45,j 46,j 47,j 48,j 49,j 50,j 51,j 52,j 53,j 54,j 55,j 56,j 57,j 58,j 59,j 60,j 61,j 62,j 63,j 64,j 65,j 66,j 67]
theorem rtK_0 (g0 g1:Tq) (n p w:Nat) (u v:Int) (j:Nat→Value):evC (yty.enm tabS11 [mEnd] 2000002) rtK_h (cAt [1,1,1,1,1,1,1,0,1,0,1,0] (bdy Tryd.f6)) ⟨rtK_a g0 g1 n p w u v j,[((wA .u32 64 kL2),g0),((wA .u64 80 kL5),g1)],True,[]⟩=some (.normal,⟨rtK_b g0 g1 n p w u v j,[((wA .u32 64 kL2),g0),((wA .u64 80 kL5),g1)],(True∧True),[]⟩):=by kernel_rfl
theorem rtK_r (g0 g1:Tq) (n p w:Nat) (u v:Int) (j:Nat→Value)   {c0:Prop} {ch0:List (Option Value)}:Runs Tryd.prog (cAt [1,1,1,1,1,1,1,0,1,0,1,0] (bdy Tryd.f6)) ⟨rtK_a g0 g1 n p w u v j,[((wA .u32 64 kL2),g0),((wA .u64 80 kL5),g1)],c0,ch0⟩ (fun e s=>e= .normal∧∃ c ch,s=⟨rtK_b g0 g1 n p w u v j,[((wA .u32 64 kL2),g0),((wA .u64 80 kL5),g1)],c,ch⟩) 2000002:=by
  refine(runs_ev mixed [] (rtK_0 g0 g1 n p w u v j) ⟨trivial,trivial⟩).mono ?_
  rintro e s ⟨rfl,rfl⟩
  exact⟨rfl,_,_,rfl⟩
def rtU_h (i:Nat):Hn:=⟨0,[],[],[],[]⟩
def rtU_a (g0 g1:Tq) (n p w r:Nat) (u v:Int) (j:Nat→Value):List Value:= [j 0,j 1,j 2,.int .i64 (n:Int),.int .i64 (p:Int),.int .u64 u,.int .i64 (w:Int),.int .u64 v,.int .i64 (r:Int),j 9,j 10,j 11,j 12,j 13,j 14,j 15,j 16,j 17,j 18,j 19,j 20,j 21,j 22,j 23,j 24,j 25,j 26,j 27,j 28,j 29,j 30,j 31,j 32,j 33,j 34,j 35,j 36,j 37,j 38,j 39,j 40,j 41,j 42,j 43,j 44,j 45,j 46,j 47,j 48,j 49,j 50,j 51,j 52,j 53,j 54,j 55,j 56,j 57,j 58,j 59,j 60,j 61,j 62,j 63,j 64,j 65,j 66,j 67]
def rtU_b (g0 g1:Tq) (n p w r:Nat) (u v:Int) (j:Nat→Value):List Value:= [j 0,j 1,j 2,.int .i64 (n:Int),.int .i64 (p:Int),.int .u64 u,.int .i64 (w:Int),.int .u64 v,.int .i64 ((r+1:Nat):Int),j 9,j 10,j 11,j 12,j 13,j 14,j 15,j 16,j 17,j 18,j 19,j 20,j 21,j 22,j 23,j 24,j 25,j 26,j 27,j 28,j 29,j 30,j 31,j 32,j 33,j 34,j 35,j 36,j 37,j 38,j 39,j 40,j 41,j 42,j 43,j 44,.int .i64 (r:Int),.int .i64 ((r+1:Nat):Int),.int .i64 (r:Int),.int .i64 ((r+1:Nat):Int),.int .i64 (((r+1)*(r+1):Nat):Int),.int .i64 (p:Int),.bool true,.int .i64 (r:Int),.int .i64 ((r+1:Nat):Int),j 54,j 55,j 56,j 57,j 58,j 59,j 60,j 61,j 62,j 63,j 64,j 65,j 66,j 67]
theorem rtU_0 (g0 g1:Tq) (n p w r:Nat) (u v:Int) (j:Nat→Value):evC (yty.enm tabS11 [mEnd] 2000002) rtU_h (cAt [1,1,1,1,1,1,1,0,1,0,1,1,0,0,0] (bdy Tryd.f6)) ⟨rtU_a g0 g1 n p w r u v j,[((wA .u32 64 kL2),g0),((wA .u64 80 kL5),g1)],True,[some (.int .i64 ((r+1:Nat):Int)),some (.int .i64 ((r+1:Nat):Int)),some (.int .i64 (((r+1)*(r+1):Nat):Int)),some (.bool true),some (.int .i64 ((r+1:Nat):Int))]⟩=some (.normal,⟨rtU_b g0 g1 n p w r u v j,[((wA .u32 64 kL2),g0),((wA .u64 80 kL5),g1)],((((((((((True∧True)∧(True∧(IntKind.i64.wrap ((r:Int)+1))=((r+1:Nat):Int)))∧True)∧(True∧(IntKind.i64.wrap ((r:Int)+1))=((r+1:Nat):Int)))∧(True∧(IntKind.i64.wrap (((r+1:Nat):Int)*((r+1:Nat):Int)))=(((r+1)*(r+1):Nat):Int)))∧True)∧(True∧(decide ((((r+1)*(r+1):Nat):Int)≤(p:Int)))=true))∧True)∧(True∧(IntKind.i64.wrap ((r:Int)+1))=((r+1:Nat):Int)))∧True),[]⟩):=by kernel_rfl
theorem rtU_r (g0 g1:Tq) (n p w r:Nat) (u v:Int) (j:Nat→Value)  (q0:(True∧(IntKind.i64.wrap ((r:Int)+1))=((r+1:Nat):Int))) (q1:(True∧(IntKind.i64.wrap ((r:Int)+1))=((r+1:Nat):Int))) (q2:(True∧(IntKind.i64.wrap (((r+1:Nat):Int)*((r+1:Nat):Int)))=(((r+1)*(r+1):Nat):Int))) (q3:(True∧(IntKind.i64.wrap ((r:Int)+1))=((r+1:Nat):Int))) (h0:(decide ((((r+1)*(r+1):Nat):Int)≤(p:Int)))=true) {c0:Prop} {ch0:List (Option Value)}:Runs Tryd.prog (cAt [1,1,1,1,1,1,1,0,1,0,1,1,0,0,0] (bdy Tryd.f6)) ⟨rtU_a g0 g1 n p w r u v j,[((wA .u32 64 kL2),g0),((wA .u64 80 kL5),g1)],c0,ch0⟩ (fun e s=>e= .normal∧∃ c ch,s=⟨rtU_b g0 g1 n p w r u v j,[((wA .u32 64 kL2),g0),((wA .u64 80 kL5),g1)],c,ch⟩) 2000002:=by
  refine(runs_ev mixed [some (.int .i64 ((r+1:Nat):Int)),some (.int .i64 ((r+1:Nat):Int)),some (.int .i64 (((r+1)*(r+1):Nat):Int)),some (.bool true),some (.int .i64 ((r+1:Nat):Int))] (rtU_0 g0 g1 n p w r u v j) ⟨⟨⟨⟨⟨⟨⟨⟨⟨⟨trivial,trivial⟩,q0⟩,trivial⟩,q1⟩,q2⟩,trivial⟩,⟨trivial,h0⟩⟩,trivial⟩,q3⟩,trivial⟩).mono ?_
  rintro e s ⟨rfl,rfl⟩
  exact⟨rfl,_,_,rfl⟩
def rtY_h (i:Nat):Hn:=⟨0,[],[],[],[]⟩
def rtY_a (g0 g1:Tq) (n p w r:Nat) (u v:Int) (j:Nat→Value):List Value:= [j 0,j 1,j 2,.int .i64 (n:Int),.int .i64 (p:Int),.int .u64 u,.int .i64 (w:Int),.int .u64 v,.int .i64 (r:Int),j 9,j 10,j 11,j 12,j 13,j 14,j 15,j 16,j 17,j 18,j 19,j 20,j 21,j 22,j 23,j 24,j 25,j 26,j 27,j 28,j 29,j 30,j 31,j 32,j 33,j 34,j 35,j 36,j 37,j 38,j 39,j 40,j 41,j 42,j 43,j 44,j 45,j 46,j 47,j 48,j 49,j 50,j 51,j 52,j 53,j 54,j 55,j 56,j 57,j 58,j 59,j 60,j 61,j 62,j 63,j 64,j 65,j 66,j 67]
def rtY_b (g0 g1:Tq) (n p w r:Nat) (u v:Int) (j:Nat→Value):List Value:= [j 0,j 1,j 2,.int .i64 (n:Int),.int .i64 (p:Int),.int .u64 u,.int .i64 (w:Int),.int .u64 v,.int .i64 (r:Int),j 9,j 10,j 11,j 12,j 13,j 14,j 15,j 16,j 17,j 18,j 19,j 20,j 21,j 22,j 23,j 24,j 25,j 26,j 27,j 28,j 29,j 30,j 31,j 32,j 33,j 34,j 35,j 36,j 37,j 38,j 39,j 40,j 41,j 42,j 43,j 44,.int .i64 (r:Int),.int .i64 ((r+1:Nat):Int),.int .i64 (r:Int),.int .i64 ((r+1:Nat):Int),.int .i64 (((r+1)*(r+1):Nat):Int),.int .i64 (p:Int),.bool false,j 52,j 53,j 54,j 55,j 56,j 57,j 58,j 59,j 60,j 61,j 62,j 63,j 64,j 65,j 66,j 67]
theorem rtY_0 (g0 g1:Tq) (n p w r:Nat) (u v:Int) (j:Nat→Value):evC (yty.enm tabS11 [mEnd] 2000002) rtY_h (cAt [1,1,1,1,1,1,1,0,1,0,1,1,0,0,0] (bdy Tryd.f6)) ⟨rtY_a g0 g1 n p w r u v j,[((wA .u32 64 kL2),g0),((wA .u64 80 kL5),g1)],True,[some (.int .i64 ((r+1:Nat):Int)),some (.int .i64 ((r+1:Nat):Int)),some (.int .i64 (((r+1)*(r+1):Nat):Int)),some (.bool false)]⟩=some ((.exit 2),⟨rtY_b g0 g1 n p w r u v j,[((wA .u32 64 kL2),g0),((wA .u64 80 kL5),g1)],(((((((True∧True)∧(True∧(IntKind.i64.wrap ((r:Int)+1))=((r+1:Nat):Int)))∧True)∧(True∧(IntKind.i64.wrap ((r:Int)+1))=((r+1:Nat):Int)))∧(True∧(IntKind.i64.wrap (((r+1:Nat):Int)*((r+1:Nat):Int)))=(((r+1)*(r+1):Nat):Int)))∧True)∧(True∧(decide ((((r+1)*(r+1):Nat):Int)≤(p:Int)))=false)),[]⟩):=by kernel_rfl
theorem rtY_r (g0 g1:Tq) (n p w r:Nat) (u v:Int) (j:Nat→Value)  (q0:(True∧(IntKind.i64.wrap ((r:Int)+1))=((r+1:Nat):Int))) (q1:(True∧(IntKind.i64.wrap ((r:Int)+1))=((r+1:Nat):Int))) (q2:(True∧(IntKind.i64.wrap (((r+1:Nat):Int)*((r+1:Nat):Int)))=(((r+1)*(r+1):Nat):Int))) (h0:(decide ((((r+1)*(r+1):Nat):Int)≤(p:Int)))=false) {c0:Prop} {ch0:List (Option Value)}:Runs Tryd.prog (cAt [1,1,1,1,1,1,1,0,1,0,1,1,0,0,0] (bdy Tryd.f6)) ⟨rtY_a g0 g1 n p w r u v j,[((wA .u32 64 kL2),g0),((wA .u64 80 kL5),g1)],c0,ch0⟩ (fun e s=>e=(.exit 2)∧∃ c ch,s=⟨rtY_b g0 g1 n p w r u v j,[((wA .u32 64 kL2),g0),((wA .u64 80 kL5),g1)],c,ch⟩) 2000002:=by
  refine(runs_ev mixed [some (.int .i64 ((r+1:Nat):Int)),some (.int .i64 ((r+1:Nat):Int)),some (.int .i64 (((r+1)*(r+1):Nat):Int)),some (.bool false)] (rtY_0 g0 g1 n p w r u v j) ⟨⟨⟨⟨⟨⟨⟨trivial,trivial⟩,q0⟩,trivial⟩,q1⟩,q2⟩,trivial⟩,⟨trivial,h0⟩⟩).mono ?_
  rintro e s ⟨rfl,rfl⟩
  exact⟨rfl,_,_,rfl⟩
def rtM_h (i:Nat):Hn:=⟨0,[],[],[],[]⟩
def rtM_a (g0 g1:Tq) (n p w r:Nat) (u v:Int) (j:Nat→Value):List Value:= [j 0,j 1,j 2,.int .i64 (n:Int),.int .i64 (p:Int),.int .u64 u,.int .i64 (w:Int),.int .u64 v,.int .i64 (r:Int),j 9,j 10,j 11,j 12,j 13,j 14,j 15,j 16,j 17,j 18,j 19,j 20,j 21,j 22,j 23,j 24,j 25,j 26,j 27,j 28,j 29,j 30,j 31,j 32,j 33,j 34,j 35,j 36,j 37,j 38,j 39,j 40,j 41,j 42,j 43,j 44,j 45,j 46,j 47,j 48,j 49,j 50,j 51,j 52,j 53,j 54,j 55,j 56,j 57,j 58,j 59,j 60,j 61,j 62,j 63,j 64,j 65,j 66,j 67]
def rtM_b (g0 g1:Tq) (n p w r:Nat) (u v:Int) (j:Nat→Value):List Value:= [j 0,j 1,j 2,.int .i64 (n:Int),.int .i64 (p:Int),.int .u64 u,.int .i64 (w:Int),.int .u64 v,.int .i64 (r:Int),j 9,j 10,j 11,j 12,j 13,j 14,j 15,j 16,j 17,j 18,j 19,j 20,j 21,j 22,j 23,j 24,j 25,j 26,j 27,j 28,j 29,j 30,j 31,j 32,j 33,j 34,j 35,j 36,j 37,j 38,j 39,j 40,j 41,j 42,j 43,j 44,j 45,j 46,j 47,j 48,j 49,j 50,j 51,j 52,j 53,.int .u64 v,.int .i64 (r:Int),.agg (wA .u64 16 (pwr (ofL v (r:Int)) 2)),.int .i64 (p:Int),.bool true,.bool false,.bool false,.int .u64 v,.int .i64 (r:Int),.agg (wA .u64 16 (pwr (up1 v (r:Int)) 2)),.int .i64 (p:Int),.bool false,.bool false,j 67]
theorem rtM_0 (g0 g1:Tq) (n p w r:Nat) (u v:Int) (j:Nat→Value):evC (yty.enm tabS11 [mEnd] 2000002) rtM_h (cAt [1,1,1,1,1,1,1,0,1,0,1,1,1] (bdy Tryd.f6)) ⟨rtM_a g0 g1 n p w r u v j,[((wA .u32 64 kL2),g0),((wA .u64 80 kL5),g1)],True,[some (.bool true),some (.bool false)]⟩=some (.normal,⟨rtM_b g0 g1 n p w r u v j,[((wA .u32 64 kL2),g0),((wA .u64 80 kL5),g1)],(((((((((((((True∧True)∧True)∧True)∧True)∧(((wA .u64 16 (pwr (ofL v (r:Int)) 2))=wA .u64 16 (dL (wA .u64 16 (pwr (ofL v (r:Int)) 2))))∧(und (dL (wA .u64 16 (pwr (ofL v (r:Int)) 2))) (lset 16 [] 8 (IntKind.u64.wrap (p:Int))) 16)=true))∧True)∧True)∧True)∧True)∧((up1 v (r:Int)).getD 0 0<65536))∧True)∧(((wA .u64 16 (pwr (up1 v (r:Int)) 2))=wA .u64 16 (dL (wA .u64 16 (pwr (up1 v (r:Int)) 2))))∧(und (dL (wA .u64 16 (pwr (up1 v (r:Int)) 2))) (lset 16 [] 8 (IntKind.u64.wrap (p:Int))) 16)=false))∧True),[]⟩):=by kernel_rfl
theorem rtM_r (g0 g1:Tq) (n p w r:Nat) (u v:Int) (j:Nat→Value)  (q0:((up1 v (r:Int)).getD 0 0<65536)) (h0:(und (dL (wA .u64 16 (pwr (ofL v (r:Int)) 2))) (lset 16 [] 8 (IntKind.u64.wrap (p:Int))) 16)=true) (h1:(und (dL (wA .u64 16 (pwr (up1 v (r:Int)) 2))) (lset 16 [] 8 (IntKind.u64.wrap (p:Int))) 16)=false) {c0:Prop} {ch0:List (Option Value)}:Runs Tryd.prog (cAt [1,1,1,1,1,1,1,0,1,0,1,1,1] (bdy Tryd.f6)) ⟨rtM_a g0 g1 n p w r u v j,[((wA .u32 64 kL2),g0),((wA .u64 80 kL5),g1)],c0,ch0⟩ (fun e s=>e= .normal∧∃ c ch,s=⟨rtM_b g0 g1 n p w r u v j,[((wA .u32 64 kL2),g0),((wA .u64 80 kL5),g1)],c,ch⟩) 2000002:=by
  refine(runs_ev mixed [some (.bool true),some (.bool false)] (rtM_0 g0 g1 n p w r u v j) ⟨⟨⟨⟨⟨⟨⟨⟨⟨⟨⟨⟨⟨trivial,trivial⟩,trivial⟩,trivial⟩,trivial⟩,⟨dw _,h0⟩⟩,trivial⟩,trivial⟩,trivial⟩,trivial⟩,q0⟩,trivial⟩,⟨dw _,h1⟩⟩,trivial⟩).mono ?_
  rintro e s ⟨rfl,rfl⟩
  exact⟨rfl,_,_,rfl⟩
def rtZ_h (i:Nat):Hn:=⟨0,[],[],[],[]⟩
def rtZ_a (g0 g1:Tq)  (j:Nat→Value):List Value:= [j 0,j 1,j 2,j 3,j 4,j 5,j 6,j 7,j 8,j 9,j 10,j 11,j 12,j 13,j 14,j 15,j 16,j 17,j 18,j 19,j 20,j 21,j 22,j 23,j 24,j 25,j 26,j 27,j 28,j 29,j 30,j 31,j 32,j 33,j 34,j 35,j 36,j 37,j 38,j 39,j 40,j 41,j 42,j 43,j 44,j 45,j 46,j 47,j 48,j 49,j 50,j 51,j 52,j 53,j 54,j 55,j 56,j 57,j 58,j 59,j 60,j 61,j 62,j 63,j 64,j 65,j 66,j 67]
def rtZ_b (g0 g1:Tq)  (j:Nat→Value):List Value:= [j 0,j 1,.bool true,j 3,j 4,j 5,j 6,j 7,j 8,j 9,j 10,j 11,j 12,j 13,j 14,j 15,j 16,j 17,j 18,j 19,j 20,j 21,j 22,j 23,j 24,j 25,j 26,j 27,j 28,j 29,j 30,j 31,j 32,j 33,j 34,j 35,j 36,j 37,j 38,j 39,j 40,j 41,j 42,j 43,j 44,j 45,j 46,j 47,j 48,j 49,j 50,j 51,j 52,j 53,j 54,j 55,j 56,j 57,j 58,j 59,j 60,j 61,j 62,j 63,j 64,j 65,j 66,.bool true]
theorem rtZ_0 (g0 g1:Tq)  (j:Nat→Value):evC (yty.enm tabS11 [mEnd] 2000002) rtZ_h (cAt [1,1,1,1,1,1,1,1] (bdy Tryd.f6)) ⟨rtZ_a g0 g1 j,[((wA .u32 64 kL2),g0),((wA .u64 80 kL5),g1)],True,[]⟩=some (.ret,⟨rtZ_b g0 g1 j,[((wA .u32 64 kL2),g0),((wA .u64 80 kL5),g1)],((True∧((wA .u32 64 kL2)=wA .u32 64 kL2∧(wA .u64 80 kL5)=wA .u64 80 kL5))∧True),[]⟩):=by kernel_rfl
theorem rtZ_r (g0 g1:Tq)  (j:Nat→Value)   {c0:Prop} {ch0:List (Option Value)}:Runs Tryd.prog (cAt [1,1,1,1,1,1,1,1] (bdy Tryd.f6)) ⟨rtZ_a g0 g1 j,[((wA .u32 64 kL2),g0),((wA .u64 80 kL5),g1)],c0,ch0⟩ (fun e s=>e= .ret∧∃ c ch,s=⟨rtZ_b g0 g1 j,[((wA .u32 64 kL2),g0),((wA .u64 80 kL5),g1)],c,ch⟩) 2000002:=by
  refine(runs_ev mixed [] (rtZ_0 g0 g1 j) ⟨⟨trivial,⟨rfl,rfl⟩⟩,trivial⟩).mono ?_
  rintro e s ⟨rfl,rfl⟩
  exact⟨rfl,_,_,rfl⟩
end Go.Proofs.YtpmkojinhebihaaDoor

set_option linter.unusedSimpArgs false
set_option linter.unusedVariables false
/-! ShaRoots: the law. -/
namespace Go.Proofs.YtpmkojinhebihaaDoor
open Go.RowKit Go.Ev
theorem runs_cond {P:Program} {fk:Nat} {t:Nat} {x y:Code} {σ:Sy} {K:Exit→Sy→Prop} (h:σ.tm.getD t undef= .bool true) (hx:Runs P x σ K fk):Runs P (.cond (.tmp t) x y) σ K fk:=fun Q w0 W β a R hK=>by
  have he:=R.ev (x:= .tmp t) rfl
  simp only[opn,h,rn] at he
  exact wp_cond_true he (hx Q w0 W β a R hK)
def rtK2 (g0 g1:Tq):List Mb:= [(wA .u32 64 kL2,g0),(wA .u64 80 kL5,g1)]
theorem crF_stop {p f w:Nat} (h:¬(w+1)*(w+1)*(w+1)≤p):crF p f w=w:=by
  cases f with
  |zero=>rfl
  |succ f=>rw[crF,if_neg h]
theorem sqF_stop {p f w:Nat} (h:¬(w+1)*(w+1)≤p):sqF p f w=w:=by
  cases f with
  |zero=>rfl
  |succ f=>rw[sqF,if_neg h]
theorem cube_w {w p:Nat} (hp:p<1000) (h:(w+1)*(w+1)*(w+1)≤p):w<10:=by
  rcases Nat.lt_or_ge w 10 with h1|h1
  · exact h1
  · have h2 : 11 * 11 ≤ (w + 1) * (w + 1) := Nat.mul_le_mul (by omega) (by omega)
    have h3:11*11*11≤(w+1)*(w+1)*(w+1):=Nat.mul_le_mul h2 (by omega)
    omega
theorem sq_w {w p:Nat} (hp:p<1000) (h:(w+1)*(w+1)≤p):w<40:=by
  rcases Nat.lt_or_ge w 40 with h1|h1
  · exact h1
  · have h2 : 41 * 41 ≤ (w + 1) * (w + 1) := Nat.mul_le_mul (by omega) (by omega)
    omega
theorem q1w {w:Nat} (h:w≤100):True∧(IntKind.i64.wrap ((w:Int)+1))=((w+1:Nat):Int):=⟨trivial,by rw[wi (by omega) (by omega)];omega⟩
theorem q2w {w:Nat} (h:w≤100):True∧(IntKind.i64.wrap (((w+1:Nat):Int)*((w+1:Nat):Int)))=(((w+1)*(w+1):Nat):Int):=⟨trivial,by
  have:(w+1)*(w+1)≤101*101:=Nat.mul_le_mul (by omega) (by omega)
  rw[← Int.natCast_mul]
  exact wi (by omega) (by omega)⟩
theorem q3w {w:Nat} (h:w≤100):True∧(IntKind.i64.wrap ((((w+1)*(w+1):Nat):Int)*((w+1:Nat):Int)))=(((w+1)*(w+1)*(w+1):Nat):Int):=⟨trivial,by
  have h1:(w+1)*(w+1)≤101*101:=Nat.mul_le_mul (by omega) (by omega)
  have h2:(w+1)*(w+1)*(w+1)≤101*101*101:=Nat.mul_le_mul h1 (by omega)
  rw[← Int.natCast_mul]
  exact wi (by omega) (by omega)⟩
theorem rt_l1 (g0 g1:Tq) (n p:Nat) (u:Int) (hp:p<1000) (j0:Nat→Value) {c0:Prop} {ch0:List (Option Value)}:Runs Tryd.prog (.loop (cAt [1,1,1,1,1,0,0,0] (bdy Tryd.f6))) ⟨rtT_a g0 g1 n p 1 u j0,rtK2 g0 g1,c0,ch0⟩ (fun e s=>e= .exit 0∧∃ j c ch,s=⟨rtT_a g0 g1 n p (crF p 30 1) u j,rtK2 g0 g1,c,ch⟩) 2000002:=by
  refine runs_loop (fun M s=>∃ w j c ch,w+M=31∧w≤11∧crF p M w=crF p 30 1∧s=⟨rtT_a g0 g1 n p w u j,rtK2 g0 g1,c,ch⟩) 30 ⟨1,j0,c0,ch0,rfl,by omega,rfl,rfl⟩ ?_
  rintro M s ⟨w,j,c,ch,hM,hw,hc,rfl⟩
  by_cases h:(w+1)*(w+1)*(w+1)≤p
  · have h10 := cube_w hp h
    obtain⟨M,rfl⟩:∃ m,M=m+1:=⟨M - 1,by omega⟩
    rw[crF,if_pos h] at hc
    refine(rtT_r g0 g1 n p w u j (q1w (by omega)) (q1w (by omega)) (q2w (by omega)) (q1w (by omega)) (q3w (by omega)) (q1w (by omega)) (decide_eq_true (by omega))).mono ?_
    rintro e s ⟨rfl,c,ch,hs⟩
    refine .inl ⟨rfl,M,by omega,w+1,fun q=>s.tm.getD q undef,c,ch,by omega,by omega,hc,?_⟩
    subst hs
    rfl
  · rw [crF_stop h] at hc
    subst hc
    refine(rtX_r g0 g1 n p (crF p 30 1) u j (q1w (by omega)) (q1w (by omega)) (q2w (by omega)) (q1w (by omega)) (q3w (by omega)) (decide_eq_false (by omega))).mono ?_
    rintro e s ⟨rfl,c,ch,hs⟩
    refine .inr ⟨by simp,rfl,fun q=>s.tm.getD q undef,c,ch,?_⟩
    subst hs
    rfl
theorem rt_l2 (g0 g1:Tq) (n p w:Nat) (u v:Int) (hp:p<1000) (j0:Nat→Value) {c0:Prop} {ch0:List (Option Value)}:Runs Tryd.prog (.loop (cAt [1,1,1,1,1,1,1,0,1,0,1,1,0,0,0] (bdy Tryd.f6))) ⟨rtU_a g0 g1 n p w 1 u v j0,rtK2 g0 g1,c0,ch0⟩ (fun e s=>e= .exit 2∧∃ j c ch,s=⟨rtU_a g0 g1 n p w (sqF p 60 1) u v j,rtK2 g0 g1,c,ch⟩) 2000002:=by
  refine runs_loop (fun M s=>∃ r j c ch,r+M=61∧r≤41∧sqF p M r=sqF p 60 1∧s=⟨rtU_a g0 g1 n p w r u v j,rtK2 g0 g1,c,ch⟩) 60 ⟨1,j0,c0,ch0,rfl,by omega,rfl,rfl⟩ ?_
  rintro M s ⟨r,j,c,ch,hM,hw,hc,rfl⟩
  by_cases h:(r+1)*(r+1)≤p
  · have h10 := sq_w hp h
    obtain⟨M,rfl⟩:∃ m,M=m+1:=⟨M - 1,by omega⟩
    rw[sqF,if_pos h] at hc
    refine(rtU_r g0 g1 n p w r u v j (q1w (by omega)) (q1w (by omega)) (q2w (by omega)) (q1w (by omega)) (decide_eq_true (by omega))).mono ?_
    rintro e s ⟨rfl,c,ch,hs⟩
    refine .inl ⟨rfl,M,by omega,r+1,fun q=>s.tm.getD q undef,c,ch,by omega,by omega,hc,?_⟩
    subst hs
    rfl
  · rw [sqF_stop h] at hc
    subst hc
    refine(rtY_r g0 g1 n p w (sqF p 60 1) u v j (q1w (by omega)) (q1w (by omega)) (q2w (by omega)) (decide_eq_false (by omega))).mono ?_
    rintro e s ⟨rfl,c,ch,hs⟩
    refine .inr ⟨by simp,rfl,fun q=>s.tm.getD q undef,c,ch,?_⟩
    subst hs
    rfl
def okS (n:Nat):Bool:=und (dL (wA .u64 16 (pwr (ofL (bg5.getD n 0) (sqF (prm n) 60 1:Nat)) 2))) (lset 16 [] 8 (IntKind.u64.wrap (prm n:Nat))) 16 && !und (dL (wA .u64 16 (pwr (up1 (bg5.getD n 0) (sqF (prm n) 60 1:Nat)) 2))) (lset 16 [] 8 (IntKind.u64.wrap (prm n:Nat))) 16 && decide ((up1 (bg5.getD n 0) (sqF (prm n) 60 1:Nat)).getD 0 0<65536)
theorem prm_low:(List.range 80).all (fun n=>decide (prm n<1000))=true:=by kernel_rfl
theorem prm_lt {n:Nat} (h:n<80):prm n<1000:=by
  have:=List.all_eq_true.1 prm_low n (List.mem_range.2 h)
  simpa using this
theorem rt_shape:(bdy Tryd.f6)= .seq (cAt [0] (bdy Tryd.f6)) (.seq (cAt [1,0] (bdy Tryd.f6)) (.seq (cAt [1,1,0] (bdy Tryd.f6)) (.seq (cAt [1,1,1,0] (bdy Tryd.f6)) (.seq (cAt [1,1,1,1,0] (bdy Tryd.f6)) (.seq (.block 0 (.loop (cAt [1,1,1,1,1,0,0,0] (bdy Tryd.f6)))) (.seq (cAt [1,1,1,1,1,1,0] (bdy Tryd.f6)) (.seq (cAt [1,1,1,1,1,1,1,0] (bdy Tryd.f6)) (cAt [1,1,1,1,1,1,1,1] (bdy Tryd.f6))))))))):=by kernel_rfl
theorem rt_shapeX:cAt [1,1,1,1,1,1,1,0] (bdy Tryd.f6)= .seq (cAt [1,1,1,1,1,1,1,0,0] (bdy Tryd.f6)) (.cond (.tmp 42) (.seq (cAt [1,1,1,1,1,1,1,0,1,0,0] (bdy Tryd.f6)) (.seq (cAt [1,1,1,1,1,1,1,0,1,0,1,0] (bdy Tryd.f6)) (.seq (.block 2 (.loop (cAt [1,1,1,1,1,1,1,0,1,0,1,1,0,0,0] (bdy Tryd.f6)))) (cAt [1,1,1,1,1,1,1,0,1,0,1,1,1] (bdy Tryd.f6))))) .skip):=by kernel_rfl
theorem rt_small (g0 g1:Tq) (n p w:Nat) (u:Int) (hn:n<8) (hp:p=prm n) (hS:okS n=true) (j:Nat→Value) {c0:Prop} {ch0:List (Option Value)}:Runs Tryd.prog (cAt [1,1,1,1,1,1,1,0] (bdy Tryd.f6)) ⟨rtI_a g0 g1 n p w u j,rtK2 g0 g1,c0,ch0⟩ (fun e s=>e= .normal∧∃ j c ch,s=⟨rtZ_a g0 g1 j,rtK2 g0 g1,c,ch⟩) 2000002:=by
  rw[rt_shapeX]
  refine runs_seq (rtI_r g0 g1 n p w u j (decide_eq_true (by omega))) (fun s h=> ?_) (fun e s hne h=>absurd h.1 hne)
  obtain⟨_,c,ch,hs⟩:=h
  refine runs_cond (by subst hs;rfl) ?_
  have hs':s=⟨rtJ_a g0 g1 n p w u (fun q=>s.tm.getD q undef),rtK2 g0 g1,c,ch⟩:=by subst hs;rfl
  rw[hs']
  refine runs_seq (rtJ_r g0 g1 n p w u _ ⟨by omega,by omega⟩) (fun s h=> ?_) (fun e s hne h=>absurd h.1 hne)
  obtain⟨_,c,ch,hs⟩:=h
  have hs':s=⟨rtK_a g0 g1 n p w u (bg5.getD n 0) (fun q=>s.tm.getD q undef),rtK2 g0 g1,c,ch⟩:=by
    subst hs;rfl
  rw[hs']
  refine runs_seq (rtK_r g0 g1 n p w u (bg5.getD n 0) _) (fun s h=> ?_) (fun e s hne h=>absurd h.1 hne)
  obtain⟨_,c,ch,hs⟩:=h
  have hs':s=⟨rtU_a g0 g1 n p w 1 u (bg5.getD n 0) (fun q=>s.tm.getD q undef),rtK2 g0 g1,c,ch⟩:=by subst hs;rfl
  rw[hs']
  have hpl:p<1000:=by rw[hp];exact prm_lt (by omega)
  refine runs_seq (K1:=fun e s=>e= .normal∧∃ j c ch,s=⟨rtU_a g0 g1 n p w (sqF p 60 1) u (bg5.getD n 0) j,rtK2 g0 g1,c,ch⟩) ?_ (fun s h=> ?_) (fun e s hne h=>absurd h.1 hne)
  · refine runs_block (rt_l2 g0 g1 n p w u (bg5.getD n 0) hpl _) ?_
    rintro e s ⟨rfl,h⟩
    exact .inl ⟨rfl,rfl,h⟩
  obtain⟨_,j,c,ch,rfl⟩:=h
  unfold okS at hS
  rw[← hp] at hS
  generalize bg5.getD n 0=v at hS ⊢
  generalize sqF p 60 1=r at hS ⊢
  simp only[Bool.and_eq_true,Bool.not_eq_true',decide_eq_true_eq] at hS
  have hs0:rtU_a g0 g1 n p w r u v j=rtM_a g0 g1 n p w r u v (fun q=>(rtU_a g0 g1 n p w r u v j).getD q undef):=rfl
  rw[hs0]
  refine(rtM_r g0 g1 n p w r u v _ hS.2 hS.1.1 hS.1.2).mono ?_
  rintro e s ⟨rfl,c,ch,hs⟩
  refine⟨rfl,fun q=>s.tm.getD q undef,c,ch,?_⟩
  subst hs
  rfl
theorem Roots_c (hC:∀ n,n<80→okC n=true) (hS:∀ n,n<8→okS n=true) (g0 g1:Tq) (k:Nat) (hk:k<256):Reads Tryd.prog 6 [(wA .u32 64 kL2,g0),(wA .u64 80 kL5,g1)] [.int .u8 (k:Int)] (.bool true) 2:=by
  refine reads_runs (fk:=2000002) (yty.enm tabS11 [mEnd] 2000002) Tryd.func6 (c:=(bdy Tryd.f6)) (by kernel_rfl) ⟨len2 _ _,by decide⟩ rfl (K:=fun e s=>e= .ret∧resS (yty.enm tabS11 [mEnd] 2000002) s Tryd.f6.results.toList=some [.bool true]) ?_ (fun e s h=>⟨h.1,_,h.2,rfl⟩)
  rw[rt_shape]
  refine runs_seq (rtA_r g0 g1 k) (fun s h=> ?_) (fun e s hne h=>absurd h.1 hne)
  obtain⟨_,c,ch,rfl⟩:=h
  refine runs_seq (rtB_r g0 g1 k ⟨trivial,wi (by omega) (by omega)⟩ ⟨by decide,by rw[Int.tmod_eq_emod_of_nonneg (by omega)];omega⟩) (fun s h=> ?_) (fun e s hne h=>absurd h.1 hne)
  obtain⟨_,c,ch,hs⟩:=h
  have hn:k%80<80:=Nat.mod_lt _ (by decide)
  have hs':s=⟨rtC_a g0 g1 (k%80) (fun q=>s.tm.getD q undef),rtK2 g0 g1,c,ch⟩:=by subst hs;rfl
  rw[hs']
  generalize k%80=n at hn ⊢
  refine runs_seq (rtC_r g0 g1 n _ ⟨by omega,by omega⟩) (fun s h=> ?_) (fun e s hne h=>absurd h.1 hne)
  obtain⟨_,c,ch,hs⟩:=h
  have hs':s=⟨rtD_a g0 g1 n (prm n) (fun q=>s.tm.getD q undef),rtK2 g0 g1,c,ch⟩:=by
    subst hs;rfl
  rw[hs']
  have hpl:=prm_lt hn
  have hCn:=hC n hn
  obtain⟨p,hp⟩:∃ p,p=prm n:=⟨_,rfl⟩
  rw[← hp] at hpl ⊢
  refine runs_seq (rtD_r g0 g1 n p _ ⟨by omega,by omega⟩) (fun s h=> ?_) (fun e s hne h=>absurd h.1 hne)
  obtain⟨_,c,ch,hs⟩:=h
  have hs':s=⟨rtE_a g0 g1 n p (kL5.getD n 0) (fun q=>s.tm.getD q undef),rtK2 g0 g1,c,ch⟩:=by
    subst hs;rfl
  rw[hs']
  unfold okC at hCn
  rw[← hp] at hCn
  generalize kL5.getD n 0=u at hCn ⊢
  refine runs_seq (rtE_r g0 g1 n p u _) (fun s h=> ?_) (fun e s hne h=>absurd h.1 hne)
  obtain⟨_,c,ch,hs⟩:=h
  have hs':s=⟨rtT_a g0 g1 n p 1 u (fun q=>s.tm.getD q undef),rtK2 g0 g1,c,ch⟩:=by subst hs;rfl
  rw[hs']
  refine runs_seq (K1:=fun e s=>e= .normal∧∃ j c ch,s=⟨rtT_a g0 g1 n p (crF p 30 1) u j,rtK2 g0 g1,c,ch⟩) ?_ (fun s h=> ?_) (fun e s hne h=>absurd h.1 hne)
  · refine runs_block (rt_l1 g0 g1 n p u hpl _) ?_
    rintro e s ⟨rfl,h⟩
    exact .inl ⟨rfl,rfl,h⟩
  obtain⟨_,j,c,ch,rfl⟩:=h
  generalize crF p 30 1=w at hCn ⊢
  simp only[Bool.and_eq_true,Bool.not_eq_true',decide_eq_true_eq] at hCn
  have hs0:rtT_a g0 g1 n p w u j=rtG_a g0 g1 n p w u (fun q=>(rtT_a g0 g1 n p w u j).getD q undef):=rfl
  rw[hs0]
  refine runs_seq (rtG_r g0 g1 n p w u _ hCn.2 hCn.1.1 hCn.1.2) (fun s h=> ?_) (fun e s hne h=>absurd h.1 hne)
  obtain⟨_,c,ch,hs⟩:=h
  refine runs_seq (K1:=fun e s=>e= .normal∧∃ j c ch,s=⟨rtZ_a g0 g1 j,rtK2 g0 g1,c,ch⟩) ?_ (fun s h=> ?_) (fun e s hne h=>absurd h.1 hne)
  · by_cases h8 : n < 8
    · have hs' : s = ⟨rtI_a g0 g1 n p w u (fun q => s.tm.getD q undef), rtK2 g0 g1, c, ch⟩ := by subst hs; rfl
      rw[hs']
      exact rt_small g0 g1 n p w u h8 hp (hS n h8) _
    · have hs' : s = ⟨rtH_a g0 g1 n p w u (fun q => s.tm.getD q undef), rtK2 g0 g1, c, ch⟩ := by subst hs; rfl
      rw[hs']
      refine(rtH_r g0 g1 n p w u _ (decide_eq_false (by omega))).mono ?_
      rintro e s ⟨rfl,c,ch,hs⟩
      refine⟨rfl,fun q=>s.tm.getD q undef,c,ch,?_⟩
      subst hs
      rfl
  obtain⟨_,j,c,ch,rfl⟩:=h
  refine(rtZ_r g0 g1 j).mono ?_
  rintro e s ⟨rfl,c,ch,hs⟩
  subst hs
  exact⟨rfl,by kernel_rfl⟩
end Go.Proofs.YtpmkojinhebihaaDoor
