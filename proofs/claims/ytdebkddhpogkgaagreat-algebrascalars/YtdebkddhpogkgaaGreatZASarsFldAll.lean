import Derived.Test.YtdebkddhpogkgaaGreatZASarsAdd
import Derived.Test.YtdebkddhpogkgaaGreatZASarsEqArr
set_option linter.unusedSimpArgs false
namespace Go.Proofs.YtdebkddhpogkgaaGreat
open Go.RowKit Go.Calm

theorem aggFe:Calm.AggT Tryz.prog 58 4:=⟨⟨_,Tryz.underlying58,rfl⟩,by kernel_rfl⟩
theorem zeroFe:(Tryz.prog.info? 58).bind (·.zero)=some (.agg #[.int .u64 0,.int .u64 0,.int .u64 0,.int .u64 0]):=by kernel_rfl
theorem one64:Calm.OneT Tryz.prog 24:=⟨⟨_,Tryz.underlying24,rfl⟩,by kernel_rfl⟩
theorem feC_size (n:Int):(feC n).size=4:=rfl
theorem w4_one (a b c d:Int):(#[Value.int .u64 a,.int .u64 b,.int .u64 c,.int .u64 d]:Array Value).all (·.oneCell')=true:=by simp[Value.oneCell']
def Ok (n:Int):Prop:=0≤n∧n<115792089237316195423570985008687907853269984665640564039457584007913129639936
theorem ok_mod (n:Int):Ok (n%pr):=by unfold Ok pr;omega
theorem words_sum (A:Int) (hA:Ok A):A%18446744073709551616+18446744073709551616*(A / 18446744073709551616%18446744073709551616)+340282366920938463463374607431768211456*(A / 340282366920938463463374607431768211456%18446744073709551616)+6277101735386680763835789423207666416102355444464034512896*(A / 6277101735386680763835789423207666416102355444464034512896%18446744073709551616)=A:=by unfold Ok at hA;omega
theorem feC_of (a b c d n:Int) (ha:0≤a) (ha':a<18446744073709551616) (hb:0≤b) (hb':b<18446744073709551616) (hc:0≤c) (hc':c<18446744073709551616) (hd:0≤d) (hd':d<18446744073709551616) (h:n=a+18446744073709551616*b+340282366920938463463374607431768211456*c+6277101735386680763835789423207666416102355444464034512896*d):feC n= #[.int .u64 a,.int .u64 b,.int .u64 c,.int .u64 d]:=by
  have:=fe_of a b c d n ha ha' hb hb' hc hc' hd hd' h
  simpa[fe] using this

set_option maxHeartbeats 400000 in
theorem Add_c (A B:Int) (hA:Ok A) (hB:Ok B) (w:World):Calls Tryz.prog 58 #[.agg (feC A),.agg (feC B)] w fun e w'=>e= .returned (.agg (feC ((A+B)%pr)))∧Below w.heap.size w w':=by
  have h:=add_any (A%18446744073709551616) (A / 18446744073709551616%18446744073709551616) (A / 340282366920938463463374607431768211456%18446744073709551616) (A / 6277101735386680763835789423207666416102355444464034512896%18446744073709551616) (B%18446744073709551616) (B / 18446744073709551616%18446744073709551616) (B / 340282366920938463463374607431768211456%18446744073709551616) (B / 6277101735386680763835789423207666416102355444464034512896%18446744073709551616) (by omega) (by omega) (by omega) (by omega) (by omega) (by omega) (by omega) (by omega) (by omega) (by omega) (by omega) (by omega) (by omega) (by omega) (by omega) (by omega) w
  rw[words_sum A hA,words_sum B hB] at h
  exact h

theorem canon_lo (a0 a1 a2 a3:Int) (ha0:0≤a0) (ha0':a0<18446744073709551616) (ha1:0≤a1) (ha1':a1<18446744073709551616) (ha2:0≤a2) (ha2':a2<18446744073709551616) (ha3:0≤a3) (ha3':a3<18446744073709551616) (h:a3<9223372036854775807):feC ((a0+18446744073709551616*a1+340282366920938463463374607431768211456*a2+6277101735386680763835789423207666416102355444464034512896*a3)%pr)= #[.int .u64 a0,.int .u64 a1,.int .u64 a2,.int .u64 a3]:=
  feC_of a0 a1 a2 a3 _ ha0 ha0' ha1 ha1' ha2 ha2' ha3 ha3' (Int.emod_eq_of_lt (by omega) (by unfold pr;omega))

set_option maxHeartbeats 400000 in
theorem canonW (a0 a1 a2 a3:Int) (ha0:0≤a0) (ha0':a0<18446744073709551616) (ha1:0≤a1) (ha1':a1<18446744073709551616) (ha2:0≤a2) (ha2':a2<18446744073709551616) (ha3:0≤a3) (ha3':a3<18446744073709551616) (w:World):Calls Tryz.prog 84 #[.agg #[.int .u64 a0,.int .u64 a1,.int .u64 a2,.int .u64 a3]] w fun e w'=>e= .returned (.agg (feC ((a0+18446744073709551616*a1+340282366920938463463374607431768211456*a2+6277101735386680763835789423207666416102355444464034512896*a3)%pr)))∧Below w.heap.size w w':=by
  have S:=Calm.St.start w
  by_cases hl:a3<9223372036854775807
  · have HF := hide (canon_lo a0 a1 a2 a3 ha0 ha0' ha1 ha1' ha2 ha2' ha3 ha3' hl)
    go_enter Tryz.func84,Tryz.ntmps84
    go_wp2_with (first|(refine wl_box S rfl rfl rfl ?_;clear S;intro b W S)|(refine wl_new (ty:=58) S rfl rfl zeroFe ?_;clear S;intro b W S)|(refine g_load (ty:=58) rfl ?_;refine wl_load (ty:=58) S rfl rfl rfl (by repeat constructor) aggFe (by rfl) ?_)|(refine g_store (ty:=58) rfl ?_;refine wl_store (ty:=58) S rfl rfl rfl rfl (by repeat(first|exact foc_hd|apply foc_tl)) aggFe rfl (by rfl) (w4_one _ _ _ _) ?_;clear S;intro W S)|(refine g_load (ty:=24) rfl ?_;refine wl_loadE (ty:=24) S rfl rfl rfl (by repeat constructor) (by rfl) one64 ?_))
    refine Calm.ret_cell S (by rfl) (by rfl) (by repeat constructor) aggFe (by rfl) (by rfl) ?_
    exact⟨by rw[HF.out],S.below⟩
  · go_enter Tryz.func84, Tryz.ntmps84
    go_wp2_with (first|(refine wl_box S rfl rfl rfl ?_;clear S;intro b W S)|(refine wl_new (ty:=58) S rfl rfl zeroFe ?_;clear S;intro b W S)|(refine g_load (ty:=24) rfl ?_;refine wl_loadE (ty:=24) S rfl rfl rfl (by repeat constructor) (by rfl) one64 ?_))
    refine(settle_any a0 a1 a2 a3 0 ha0 ha0' ha1 ha1' ha2 ha2' ha3 ha3' (by omega) (by omega) _).mono ?_
    rintro e W1 ⟨rfl,hb⟩
    have S:=S.call hb
    clear hb
    go_wp2_with ((refine g_store (ty:=58) rfl ?_;refine wl_store (ty:=58) S rfl rfl rfl rfl (by repeat(first|exact foc_hd|apply foc_tl)) aggFe rfl (by rfl) (w4_one _ _ _ _) ?_;clear S;intro W S))
    refine Calm.ret_cell S (by rfl) (by rfl) (by repeat constructor) aggFe (by rfl) (by rfl) ?_
    exact⟨rfl,S.below⟩

theorem Canon_c (A:Int) (hA:Ok A) (w:World):Calls Tryz.prog 84 #[.agg (feC A)] w fun e w'=>e= .returned (.agg (feC (A%pr)))∧Below w.heap.size w w':=by
  have h:=canonW (A%18446744073709551616) (A / 18446744073709551616%18446744073709551616) (A / 340282366920938463463374607431768211456%18446744073709551616) (A / 6277101735386680763835789423207666416102355444464034512896%18446744073709551616) (by omega) (by omega) (by omega) (by omega) (by omega) (by omega) (by omega) (by omega) w
  rw[words_sum A hA] at h
  exact h

theorem of_fe (n:Int) (h0:0≤n) (h1:n<18446744073709551616):feC n= #[.int .u64 n,.int .u64 0,.int .u64 0,.int .u64 0]:=feC_of n 0 0 0 n h0 h1 (by omega) (by omega) (by omega) (by omega) (by omega) (by omega) (by omega)
set_option maxHeartbeats 400000 in
theorem Of_c (n:Int) (h0:0≤n) (h1:n<18446744073709551616) (w:World):Calls Tryz.prog 55 #[.int .u64 n] w fun e w'=>e= .returned (.agg (feC n))∧Below w.heap.size w w':=by
  have S:=Calm.St.start w
  go_enter Tryz.func55,Tryz.ntmps55
  go_wp2_with (first|(refine wl_new (ty:=58) S rfl rfl zeroFe ?_;clear S;intro b W S)|(refine g_store (ty:=58) rfl ?_;refine wl_store (ty:=58) S rfl rfl rfl rfl (by repeat(first|exact foc_hd|apply foc_tl)) aggFe rfl (by rfl) (w4_one _ _ _ _) ?_;clear S;intro W S))
  refine Calm.ret_cell S (by rfl) (by rfl) (by repeat constructor) aggFe (by rfl) (by rfl) ?_
  exact⟨by rw[of_fe n h0 h1],S.below⟩
end Go.Proofs.YtdebkddhpogkgaaGreat

set_option linter.unusedSimpArgs false
namespace Go.Proofs.YtdebkddhpogkgaaGreat
open Go.RowKit Go.Calm

theorem arrFe:Calm.ArrT Tryz.prog 58 4 .u64:=⟨⟨_,Tryz.underlying58,Tryz.underlying24,by kernel_rfl⟩,by kernel_rfl⟩
def feL (n:Int):List Int:= [n%18446744073709551616,n / 18446744073709551616%18446744073709551616,n / 340282366920938463463374607431768211456%18446744073709551616,n / 6277101735386680763835789423207666416102355444464034512896%18446744073709551616]
theorem feL_inj {X Y:Int} (hX:Ok X) (hY:Ok Y):(feL X == feL Y)=decide (X=Y):=by
  unfold Ok at*
  rw[Bool.eq_iff_iff,beq_iff_eq,decide_eq_true_iff]
  constructor
  · intro h
    simp only[feL,List.cons.injEq,and_true] at h
    omega
  · intro h;rw[h]
section
variable {ops:Array Oper} {rest:List Oper} {o:Oper} {a:Act} {W:World} {Q:Exit→Act→World→Prop} {al:List (Nat×Tmp)} {R:Act→Prop} {m:Nat}
theorem eqFe_run {X Y:Int} {x y:Operand} {u:TypeId} (hX:Ok X) (hY:Ok Y) (ho:o.op= .binOp .eql 58 x y u) (hx:a.eval x= .agg (feC X)) (hy:a.eval y= .agg (feC Y)) (w:World):(execOp a.eval o).run Tryz.prog w= .ok (.value (.bool (decide (X=Y)))) w:=by
  rw[← feL_inj hX hY]
  exact Calm.exec_eql arrFe (feL X) (feL Y) rfl rfl ho hx hy w
theorem wn_eqFe {X Y:Int} {x y:Operand} {u:TypeId} (hal:(al.map Prod.fst).contains m=false) (hw:Region.wanted o (yielded ops a.tmps)=true) (ho:o.op= .binOp .eql 58 x y u) (hx:a.eval x= .agg (feC X)) (hy:a.eval y= .agg (feC Y)) (hX:Ok X) (hY:Ok Y)
    (h:Calm.walkN Tryz.prog ops W al R (m+1) rest (a.put o.dst (.bool (decide (X=Y))))):Calm.walkN Tryz.prog ops W al R m (o :: rest) a:=
  wn_val hal hw (eqFe_run hX hY ho hx hy) h
end

set_option maxHeartbeats 400000 in
theorem Same_c (A B:Int) (hA:Ok A) (hB:Ok B) (w:World):Calls Tryz.prog 63 #[.agg (feC A),.agg (feC B)] w fun e w'=>e= .returned (.bool (decide (A%pr=B%pr)))∧Below w.heap.size w w':=by
  have S:=Calm.St.start w
  go_enter Tryz.func63,Tryz.ntmps63
  go_wp2_with ((refine wl_box S rfl rfl rfl ?_;clear S;intro b W S))
  refine Calm.region0 S 6 (by kernel_rfl) (by kernel_rfl) (fun S=> ?_)
  repeat(first|(refine wn_move rfl (by rfl) (Or.inr rfl) ?_;simp only[Act.put,Act.eval,zQ])|(refine Calm.gn_load (ty:=58) rfl ?_;refine wn_load (ty:=58) S rfl (by rfl) rfl rfl (by repeat constructor) aggFe (by rfl) ?_;simp only[Act.put,Act.eval,zQ])|(apply wn_call (f:=84) rfl (by rfl) rfl;(intro w;go_simp;rfl);(intro w;exact Canon_c _ (by first|exact ok_mod _|assumption) w);simp only[Act.put,Act.eval,zQ])|(refine wn_eqFe rfl (by rfl) rfl rfl rfl (ok_mod _) (ok_mod _) ?_;simp only[Act.put,Act.eval,zQ]))
  (refine wn_nil ?_;clear S;intro W S;simp only[Act.put,List.setIfInBounds_toArray,List.set_cons_zero,List.set_cons_succ,List.drop_succ_cons,List.drop_zero,List.drop_nil])
  go_wp2_with (first|(refine wl_box S rfl rfl rfl ?_;clear S;intro b W S)|(refine wl_new (ty:=58) S rfl rfl zeroFe ?_;clear S;intro b W S)|(refine g_load (ty:=58) rfl ?_;refine wl_load (ty:=58) S rfl rfl rfl (by repeat constructor) aggFe (by rfl) ?_)|(refine g_store (ty:=58) rfl ?_;refine wl_store (ty:=58) S rfl rfl rfl rfl (by repeat(first|exact foc_hd|apply foc_tl)) aggFe rfl (by rfl) (w4_one _ _ _ _) ?_;clear S;intro W S)|(refine g_load (ty:=24) rfl ?_;refine wl_loadE (ty:=24) S rfl rfl rfl (by repeat constructor) (by rfl) one64 ?_)|(refine g_store (ty:=24) rfl ?_;refine wl_storeE (ty:=24) S rfl rfl rfl rfl (by rfl) (by repeat(first|exact foc_hd|apply foc_tl)) one64 (by simp) rfl ?_;clear S;intro W S;simp only[Act.eval,zQ] at S))
  go_ret
  exact⟨rfl,S.below⟩
end Go.Proofs.YtdebkddhpogkgaaGreat

set_option linter.unusedSimpArgs false
namespace Go.Proofs.YtdebkddhpogkgaaGreat
open Go.RowKit Go.Calm

theorem fe_words (X:Int) (hX:Ok X):∃ x0 x1 x2 x3:Int,feC X= #[.int .u64 x0,.int .u64 x1,.int .u64 x2,.int .u64 x3]∧0≤x0∧x0<18446744073709551616∧0≤x1∧x1<18446744073709551616∧0≤x2∧x2<18446744073709551616∧0≤x3∧x3<18446744073709551616∧Hid (X=x0+18446744073709551616*x1+340282366920938463463374607431768211456*x2+6277101735386680763835789423207666416102355444464034512896*x3):=by
  unfold Ok at hX
  refine⟨_,_,_,_,rfl,by omega,by omega,by omega,by omega,by omega,by omega,by omega,by omega,by unfold Hid;omega⟩

set_option maxHeartbeats 400000 in
theorem Odd_c (A:Int) (hA:Ok A) (w:World):Calls Tryz.prog 54 #[.agg (feC A)] w fun e w'=>e= .returned (.bool (decide (A%pr%2=1)))∧Below w.heap.size w w':=by
  have S:=Calm.St.start w
  go_enter Tryz.func54,Tryz.ntmps54
  go_wp2_with (first|(refine wl_box S rfl rfl rfl ?_;clear S;intro b W S)|(refine g_load (ty:=58) rfl ?_;refine wl_load (ty:=58) S rfl rfl rfl (by repeat constructor) aggFe (by rfl) ?_))
  refine(Canon_c A hA _).mono ?_
  rintro e W1 ⟨he,hb⟩
  obtain⟨x0,x1,x2,x3,hx,p0,q0,p1,q1,p2,q2,p3,q3,H⟩:=fe_words (A%pr) (ok_mod _)
  rw[hx] at he
  subst he
  have S:=S.call hb
  clear hb hx
  have e1:bits .and .u64 x0 1=x0%2:=by
    obtain⟨y,rfl⟩:=Int.eq_ofNat_of_zero_le p0
    have h:=bits_and_u64_nat y 1 (by omega) (by omega)
    rw[Nat.and_one_is_mod] at h
    exact h
  have i0:∀ w,(Instr.index 58 (.agg #[.int .u64 x0,.int .u64 x1,.int .u64 x2,.int .u64 x3]) (.int .i64 0)).run Tryz.prog w= .ok (.int .u64 x0) w:=fun _=>by kernel_rfl
  go_wp2_with (first|(refine wl_box S rfl rfl rfl ?_;clear S;intro b W S)|(refine wl_new (ty:=58) S rfl rfl zeroFe ?_;clear S;intro b W S)|(refine g_load (ty:=58) rfl ?_;refine wl_load (ty:=58) S rfl rfl rfl (by repeat constructor) aggFe (by rfl) ?_)|(refine g_store (ty:=58) rfl ?_;refine wl_store (ty:=58) S rfl rfl rfl rfl (by repeat(first|exact foc_hd|apply foc_tl)) aggFe rfl (by rfl) (w4_one _ _ _ _) ?_;clear S;intro W S)|(refine g_load (ty:=24) rfl ?_;refine wl_loadE (ty:=24) S rfl rfl rfl (by repeat constructor) (by rfl) one64 ?_)|(refine g_store (ty:=24) rfl ?_;refine wl_storeE (ty:=24) S rfl rfl rfl rfl (by rfl) (by repeat(first|exact foc_hd|apply foc_tl)) one64 (by simp) rfl ?_;clear S;intro W S;simp only[Act.eval,zQ] at S))
  go_ret
  refine⟨?_,S.below⟩
  have e2:A%pr%2=x0%2:=by have:=H.out;omega
  rw[e2]
  congr 2

theorem sub_math (X Y a0 a1 a2 a3 b0 b1 b2 b3 s0 s1 s2 s3 o0 o1 o2 o3 u0 u1 u2 u3 r0 r1 r2 r3:Int) (hX0:0≤X) (hX:X<pr) (hY0:0≤Y) (hY:Y<pr)
    (EX:X=a0+18446744073709551616*a1+340282366920938463463374607431768211456*a2+6277101735386680763835789423207666416102355444464034512896*a3) (EY:Y=b0+18446744073709551616*b1+340282366920938463463374607431768211456*b2+6277101735386680763835789423207666416102355444464034512896*b3)
    (H0:s0 - 18446744073709551616*o0=a0 - b0 - 0) (H1:s1 - 18446744073709551616*o1=a1 - b1 - o0) (H2:s2 - 18446744073709551616*o2=a2 - b2 - o1) (H3:s3 - 18446744073709551616*o3=a3 - b3 - o2)
    (p0:0≤s0) (q0:s0<18446744073709551616) (p1:0≤s1) (q1:s1<18446744073709551616) (p2:0≤s2) (q2:s2<18446744073709551616) (p3:0≤s3) (q3:s3<18446744073709551616) (c3:0≤o3) (d3:o3≤1)
    (G0:u0 - 18446744073709551616*r0=s0 - 19*o3 - 0) (G1:u1 - 18446744073709551616*r1=s1 - r0 - 0) (G2:u2 - 18446744073709551616*r2=s2 - r1 - 0) (G3:u3 - 18446744073709551616*r3=s3%9223372036854775808 - r2 - 0)
    (P0:0≤u0) (Q0:u0<18446744073709551616) (P1:0≤u1) (Q1:u1<18446744073709551616) (P2:0≤u2) (Q2:u2<18446744073709551616) (P3:0≤u3) (Q3:u3<18446744073709551616) (R3:0≤r3) (R3':r3≤1):
    feC ((X - Y)%pr)= #[.int .u64 u0,.int .u64 u1,.int .u64 u2,.int .u64 u3]:=by
  have e1:s0+18446744073709551616*s1+340282366920938463463374607431768211456*s2+6277101735386680763835789423207666416102355444464034512896*s3=X - Y+115792089237316195423570985008687907853269984665640564039457584007913129639936*o3:=by omega
  unfold pr at*
  have hr:r3=0:=by
    have:o3=0∨o3=1:=by omega
    rcases this with h|h
    · subst h;omega
    · subst h;omega
  have e3:u0+18446744073709551616*u1+340282366920938463463374607431768211456*u2+6277101735386680763835789423207666416102355444464034512896*u3=X - Y+57896044618658097711785492504343953926634992332820282019728792003956564819949*o3:=by
    have:o3=0∨o3=1:=by omega
    rcases this with h|h
    · subst h;omega
    · subst h;omega
  refine feC_of u0 u1 u2 u3 _ P0 Q0 P1 Q1 P2 Q2 P3 Q3 ?_
  rw[e3]
  have:o3=0∨o3=1:=by omega
  rcases this with h|h
  · subst h;exact emod_of _ 0 _ _ (by omega) (by omega) (by omega)
  · subst h;exact emod_of _ (-1) _ _ (by omega) (by omega) (by omega)

set_option maxHeartbeats 4000000 in
theorem Sub_c (A B:Int) (hA:Ok A) (hB:Ok B) (w:World):Calls Tryz.prog 57 #[.agg (feC A),.agg (feC B)] w fun e w'=>e= .returned (.agg (feC ((A%pr - B%pr)%pr)))∧Below w.heap.size w w':=by
  have S:=Calm.St.start w
  obtain⟨a0,a1,a2,a3,hx,ha0,ha0',ha1,ha1',ha2,ha2',ha3,ha3',HX⟩:=fe_words (A%pr) (ok_mod _)
  obtain⟨b0,b1,b2,b3,hy,hb0,hb0',hb1,hb1',hb2,hb2',hb3,hb3',HY⟩:=fe_words (B%pr) (ok_mod _)
  have Hx:=hide hx
  have Hy:=hide hy
  clear hx hy
  obtain⟨s0,o0,k0,p0,q0,c0,d0,H0⟩:=sub64E' a0 b0 0 ha0 ha0' hb0 hb0' (by omega) (by omega)
  obtain⟨s1,o1,k1,p1,q1,c1,d1,H1⟩:=sub64E' a1 b1 o0 ha1 ha1' hb1 hb1' (by omega) (by omega)
  obtain⟨s2,o2,k2,p2,q2,c2,d2,H2⟩:=sub64E' a2 b2 o1 ha2 ha2' hb2 hb2' (by omega) (by omega)
  obtain⟨s3,o3,k3,p3,q3,c3,d3,H3⟩:=sub64E' a3 b3 o2 ha3 ha3' hb3 hb3' (by omega) (by omega)
  have e3:=and_top s3 p3 q3
  obtain⟨u0,r0,l0,P0,Q0,C0,D0,G0⟩:=sub64E' s0 (19*o3) 0 p0 q0 (by omega) (by omega) (by omega) (by omega)
  obtain⟨u1,r1,l1,P1,Q1,C1,D1,G1⟩:=sub64E' s1 r0 0 p1 q1 (by omega) (by omega) (by omega) (by omega)
  obtain⟨u2,r2,l2,P2,Q2,C2,D2,G2⟩:=sub64E' s2 r1 0 p2 q2 (by omega) (by omega) (by omega) (by omega)
  obtain⟨u3,r3,l3,P3,Q3,C3,D3,G3⟩:=sub64E' (s3%9223372036854775808) r2 0 (by omega) (by omega) (by omega) (by omega) (by omega) (by omega)
  go_enter Tryz.func57,Tryz.ntmps57
  go_wp2_with (first|(refine wl_box S rfl rfl rfl ?_;clear S;intro b W S)|(refine wl_new (ty:=58) S rfl rfl zeroFe ?_;clear S;intro b W S))
  refine Calm.region0 S 4 (by kernel_rfl) (by kernel_rfl) (fun S=> ?_)
  repeat(first|(refine Calm.gn_load (ty:=58) rfl ?_;refine wn_load (ty:=58) S rfl (by rfl) rfl rfl (by repeat constructor) aggFe (by rfl) ?_;simp only[Act.put,Act.eval,zQ])|(apply wn_call (f:=84) rfl (by rfl) rfl;(intro w;go_simp;rfl);(intro w;exact Canon_c _ (by first|exact ok_mod _|assumption) w);simp only[Act.put,Act.eval,zQ]))
  (refine wn_nil ?_;clear S;intro W S;simp only[Act.put,List.setIfInBounds_toArray,List.set_cons_zero,List.set_cons_succ,List.drop_succ_cons,List.drop_zero,List.drop_nil])
  rw[Hx.out,Hy.out]
  go_wp2_with ((refine g_store (ty:=58) rfl ?_;refine wl_store (ty:=58) S rfl rfl rfl rfl (by repeat(first|exact foc_hd|apply foc_tl)) aggFe rfl (by rfl) (w4_one _ _ _ _) ?_;clear S;intro W S))
  refine wp_loop_rounds 5 ?_
  rw[rounds_succ]
  go_wp2_with (first|(refine wl_box S rfl rfl rfl ?_;clear S;intro b W S)|(refine wl_new (ty:=58) S rfl rfl zeroFe ?_;clear S;intro b W S)|(refine g_load (ty:=58) rfl ?_;refine wl_load (ty:=58) S rfl rfl rfl (by repeat constructor) aggFe (by rfl) ?_)|(refine g_store (ty:=58) rfl ?_;refine wl_store (ty:=58) S rfl rfl rfl rfl (by repeat(first|exact foc_hd|apply foc_tl)) aggFe rfl (by rfl) (w4_one _ _ _ _) ?_;clear S;intro W S)|(refine g_load (ty:=24) rfl ?_;refine wl_loadE (ty:=24) S rfl rfl rfl (by repeat constructor) (by rfl) one64 ?_)|(refine g_store (ty:=24) rfl ?_;refine wl_storeE (ty:=24) S rfl rfl rfl rfl (by rfl) (by repeat(first|exact foc_hd|apply foc_tl)) one64 (by simp) rfl ?_;clear S;intro W S;simp only[Act.eval,zQ] at S))
  obtain⟨hc,hf⟩:=S.cell (cs:= #[.int .u64 a0,.int .u64 a1,.int .u64 a2,.int .u64 a3]) (by repeat constructor)
  obtain⟨hc2,hf2⟩:=S.cell (cs:= #[.int .u64 b0,.int .u64 b1,.int .u64 b2,.int .u64 b3]) (by repeat constructor)
  go_region
  clear hc hf hc2 hf2
  have S':=(Calm.St.setCell S (j:=0) (v:= .int .u64 s0) (old:= #[.int .u64 a0,.int .u64 a1,.int .u64 a2,.int .u64 a3]) (by repeat(first|exact foc_hd|apply foc_tl))).drew
  clear S
  obtain⟨W,S,hW⟩:=S'.ex
  rw[← hW]
  clear hW S'
  go_wp2_with (first|(refine wl_box S rfl rfl rfl ?_;clear S;intro b W S)|(refine wl_new (ty:=58) S rfl rfl zeroFe ?_;clear S;intro b W S)|(refine g_load (ty:=58) rfl ?_;refine wl_load (ty:=58) S rfl rfl rfl (by repeat constructor) aggFe (by rfl) ?_)|(refine g_store (ty:=58) rfl ?_;refine wl_store (ty:=58) S rfl rfl rfl rfl (by repeat(first|exact foc_hd|apply foc_tl)) aggFe rfl (by rfl) (w4_one _ _ _ _) ?_;clear S;intro W S)|(refine g_load (ty:=24) rfl ?_;refine wl_loadE (ty:=24) S rfl rfl rfl (by repeat constructor) (by rfl) one64 ?_)|(refine g_store (ty:=24) rfl ?_;refine wl_storeE (ty:=24) S rfl rfl rfl rfl (by rfl) (by repeat(first|exact foc_hd|apply foc_tl)) one64 (by simp) rfl ?_;clear S;intro W S;simp only[Act.eval,zQ] at S))
  rw[rounds_succ]
  go_wp2_with (first|(refine wl_box S rfl rfl rfl ?_;clear S;intro b W S)|(refine wl_new (ty:=58) S rfl rfl zeroFe ?_;clear S;intro b W S)|(refine g_load (ty:=58) rfl ?_;refine wl_load (ty:=58) S rfl rfl rfl (by repeat constructor) aggFe (by rfl) ?_)|(refine g_store (ty:=58) rfl ?_;refine wl_store (ty:=58) S rfl rfl rfl rfl (by repeat(first|exact foc_hd|apply foc_tl)) aggFe rfl (by rfl) (w4_one _ _ _ _) ?_;clear S;intro W S)|(refine g_load (ty:=24) rfl ?_;refine wl_loadE (ty:=24) S rfl rfl rfl (by repeat constructor) (by rfl) one64 ?_)|(refine g_store (ty:=24) rfl ?_;refine wl_storeE (ty:=24) S rfl rfl rfl rfl (by rfl) (by repeat(first|exact foc_hd|apply foc_tl)) one64 (by simp) rfl ?_;clear S;intro W S;simp only[Act.eval,zQ] at S))
  obtain⟨hc,hf⟩:=S.cell (cs:= #[.int .u64 s0,.int .u64 a1,.int .u64 a2,.int .u64 a3]) (by repeat constructor)
  obtain⟨hc2,hf2⟩:=S.cell (cs:= #[.int .u64 b0,.int .u64 b1,.int .u64 b2,.int .u64 b3]) (by repeat constructor)
  go_region
  clear hc hf hc2 hf2
  have S':=(Calm.St.setCell S (j:=1) (v:= .int .u64 s1) (old:= #[.int .u64 s0,.int .u64 a1,.int .u64 a2,.int .u64 a3]) (by repeat(first|exact foc_hd|apply foc_tl))).drew
  clear S
  obtain⟨W,S,hW⟩:=S'.ex
  rw[← hW]
  clear hW S'
  go_wp2_with (first|(refine wl_box S rfl rfl rfl ?_;clear S;intro b W S)|(refine wl_new (ty:=58) S rfl rfl zeroFe ?_;clear S;intro b W S)|(refine g_load (ty:=58) rfl ?_;refine wl_load (ty:=58) S rfl rfl rfl (by repeat constructor) aggFe (by rfl) ?_)|(refine g_store (ty:=58) rfl ?_;refine wl_store (ty:=58) S rfl rfl rfl rfl (by repeat(first|exact foc_hd|apply foc_tl)) aggFe rfl (by rfl) (w4_one _ _ _ _) ?_;clear S;intro W S)|(refine g_load (ty:=24) rfl ?_;refine wl_loadE (ty:=24) S rfl rfl rfl (by repeat constructor) (by rfl) one64 ?_)|(refine g_store (ty:=24) rfl ?_;refine wl_storeE (ty:=24) S rfl rfl rfl rfl (by rfl) (by repeat(first|exact foc_hd|apply foc_tl)) one64 (by simp) rfl ?_;clear S;intro W S;simp only[Act.eval,zQ] at S))
  rw[rounds_succ]
  go_wp2_with (first|(refine wl_box S rfl rfl rfl ?_;clear S;intro b W S)|(refine wl_new (ty:=58) S rfl rfl zeroFe ?_;clear S;intro b W S)|(refine g_load (ty:=58) rfl ?_;refine wl_load (ty:=58) S rfl rfl rfl (by repeat constructor) aggFe (by rfl) ?_)|(refine g_store (ty:=58) rfl ?_;refine wl_store (ty:=58) S rfl rfl rfl rfl (by repeat(first|exact foc_hd|apply foc_tl)) aggFe rfl (by rfl) (w4_one _ _ _ _) ?_;clear S;intro W S)|(refine g_load (ty:=24) rfl ?_;refine wl_loadE (ty:=24) S rfl rfl rfl (by repeat constructor) (by rfl) one64 ?_)|(refine g_store (ty:=24) rfl ?_;refine wl_storeE (ty:=24) S rfl rfl rfl rfl (by rfl) (by repeat(first|exact foc_hd|apply foc_tl)) one64 (by simp) rfl ?_;clear S;intro W S;simp only[Act.eval,zQ] at S))
  obtain⟨hc,hf⟩:=S.cell (cs:= #[.int .u64 s0,.int .u64 s1,.int .u64 a2,.int .u64 a3]) (by repeat constructor)
  obtain⟨hc2,hf2⟩:=S.cell (cs:= #[.int .u64 b0,.int .u64 b1,.int .u64 b2,.int .u64 b3]) (by repeat constructor)
  go_region
  clear hc hf hc2 hf2
  have S':=(Calm.St.setCell S (j:=2) (v:= .int .u64 s2) (old:= #[.int .u64 s0,.int .u64 s1,.int .u64 a2,.int .u64 a3]) (by repeat(first|exact foc_hd|apply foc_tl))).drew
  clear S
  obtain⟨W,S,hW⟩:=S'.ex
  rw[← hW]
  clear hW S'
  go_wp2_with (first|(refine wl_box S rfl rfl rfl ?_;clear S;intro b W S)|(refine wl_new (ty:=58) S rfl rfl zeroFe ?_;clear S;intro b W S)|(refine g_load (ty:=58) rfl ?_;refine wl_load (ty:=58) S rfl rfl rfl (by repeat constructor) aggFe (by rfl) ?_)|(refine g_store (ty:=58) rfl ?_;refine wl_store (ty:=58) S rfl rfl rfl rfl (by repeat(first|exact foc_hd|apply foc_tl)) aggFe rfl (by rfl) (w4_one _ _ _ _) ?_;clear S;intro W S)|(refine g_load (ty:=24) rfl ?_;refine wl_loadE (ty:=24) S rfl rfl rfl (by repeat constructor) (by rfl) one64 ?_)|(refine g_store (ty:=24) rfl ?_;refine wl_storeE (ty:=24) S rfl rfl rfl rfl (by rfl) (by repeat(first|exact foc_hd|apply foc_tl)) one64 (by simp) rfl ?_;clear S;intro W S;simp only[Act.eval,zQ] at S))
  rw[rounds_succ]
  go_wp2_with (first|(refine wl_box S rfl rfl rfl ?_;clear S;intro b W S)|(refine wl_new (ty:=58) S rfl rfl zeroFe ?_;clear S;intro b W S)|(refine g_load (ty:=58) rfl ?_;refine wl_load (ty:=58) S rfl rfl rfl (by repeat constructor) aggFe (by rfl) ?_)|(refine g_store (ty:=58) rfl ?_;refine wl_store (ty:=58) S rfl rfl rfl rfl (by repeat(first|exact foc_hd|apply foc_tl)) aggFe rfl (by rfl) (w4_one _ _ _ _) ?_;clear S;intro W S)|(refine g_load (ty:=24) rfl ?_;refine wl_loadE (ty:=24) S rfl rfl rfl (by repeat constructor) (by rfl) one64 ?_)|(refine g_store (ty:=24) rfl ?_;refine wl_storeE (ty:=24) S rfl rfl rfl rfl (by rfl) (by repeat(first|exact foc_hd|apply foc_tl)) one64 (by simp) rfl ?_;clear S;intro W S;simp only[Act.eval,zQ] at S))
  obtain⟨hc,hf⟩:=S.cell (cs:= #[.int .u64 s0,.int .u64 s1,.int .u64 s2,.int .u64 a3]) (by repeat constructor)
  obtain⟨hc2,hf2⟩:=S.cell (cs:= #[.int .u64 b0,.int .u64 b1,.int .u64 b2,.int .u64 b3]) (by repeat constructor)
  go_region
  clear hc hf hc2 hf2
  have S':=(Calm.St.setCell S (j:=3) (v:= .int .u64 s3) (old:= #[.int .u64 s0,.int .u64 s1,.int .u64 s2,.int .u64 a3]) (by repeat(first|exact foc_hd|apply foc_tl))).drew
  clear S
  obtain⟨W,S,hW⟩:=S'.ex
  rw[← hW]
  clear hW S'
  go_wp2_with (first|(refine wl_box S rfl rfl rfl ?_;clear S;intro b W S)|(refine wl_new (ty:=58) S rfl rfl zeroFe ?_;clear S;intro b W S)|(refine g_load (ty:=58) rfl ?_;refine wl_load (ty:=58) S rfl rfl rfl (by repeat constructor) aggFe (by rfl) ?_)|(refine g_store (ty:=58) rfl ?_;refine wl_store (ty:=58) S rfl rfl rfl rfl (by repeat(first|exact foc_hd|apply foc_tl)) aggFe rfl (by rfl) (w4_one _ _ _ _) ?_;clear S;intro W S)|(refine g_load (ty:=24) rfl ?_;refine wl_loadE (ty:=24) S rfl rfl rfl (by repeat constructor) (by rfl) one64 ?_)|(refine g_store (ty:=24) rfl ?_;refine wl_storeE (ty:=24) S rfl rfl rfl rfl (by rfl) (by repeat(first|exact foc_hd|apply foc_tl)) one64 (by simp) rfl ?_;clear S;intro W S;simp only[Act.eval,zQ] at S))
  rw[rounds_succ]
  go_wp2_with (first|(refine g_load (ty:=24) rfl ?_;refine wl_loadE (ty:=24) S rfl rfl rfl (by repeat constructor) (by rfl) one64 ?_)|(refine g_store (ty:=24) rfl ?_;refine wl_storeE (ty:=24) S rfl rfl rfl rfl (by rfl) (by repeat(first|exact foc_hd|apply foc_tl)) one64 (by simp) rfl ?_;clear S;intro W S;simp only[Act.eval,zQ] at S))
  refine wp_loop_rounds 5 ?_
  rw[rounds_succ]
  go_wp2_with (first|(refine g_load (ty:=24) rfl ?_;refine wl_loadE (ty:=24) S rfl rfl rfl (by repeat constructor) (by rfl) one64 ?_)|(refine g_store (ty:=24) rfl ?_;refine wl_storeE (ty:=24) S rfl rfl rfl rfl (by rfl) (by repeat(first|exact foc_hd|apply foc_tl)) one64 (by simp) rfl ?_;clear S;intro W S;simp only[Act.eval,zQ] at S))
  rw[rounds_succ]
  go_wp2_with (first|(refine g_load (ty:=24) rfl ?_;refine wl_loadE (ty:=24) S rfl rfl rfl (by repeat constructor) (by rfl) one64 ?_)|(refine g_store (ty:=24) rfl ?_;refine wl_storeE (ty:=24) S rfl rfl rfl rfl (by rfl) (by repeat(first|exact foc_hd|apply foc_tl)) one64 (by simp) rfl ?_;clear S;intro W S;simp only[Act.eval,zQ] at S))
  rw[rounds_succ]
  go_wp2_with (first|(refine g_load (ty:=24) rfl ?_;refine wl_loadE (ty:=24) S rfl rfl rfl (by repeat constructor) (by rfl) one64 ?_)|(refine g_store (ty:=24) rfl ?_;refine wl_storeE (ty:=24) S rfl rfl rfl rfl (by rfl) (by repeat(first|exact foc_hd|apply foc_tl)) one64 (by simp) rfl ?_;clear S;intro W S;simp only[Act.eval,zQ] at S))
  rw[rounds_succ]
  go_wp2_with (first|(refine g_load (ty:=24) rfl ?_;refine wl_loadE (ty:=24) S rfl rfl rfl (by repeat constructor) (by rfl) one64 ?_)|(refine g_store (ty:=24) rfl ?_;refine wl_storeE (ty:=24) S rfl rfl rfl rfl (by rfl) (by repeat(first|exact foc_hd|apply foc_tl)) one64 (by simp) rfl ?_;clear S;intro W S;simp only[Act.eval,zQ] at S))
  rw[rounds_succ]
  go_wp2_with (first|(refine g_load (ty:=58) rfl ?_;refine wl_load (ty:=58) S rfl rfl rfl (by repeat constructor) aggFe (by rfl) ?_)|(refine g_store (ty:=58) rfl ?_;refine wl_store (ty:=58) S rfl rfl rfl rfl (by repeat(first|exact foc_hd|apply foc_tl)) aggFe rfl (by rfl) (w4_one _ _ _ _) ?_;clear S;intro W S))
  refine Calm.ret_cell S (by rfl) (by rfl) (by repeat constructor) aggFe (by rfl) (by rfl) ?_
  refine⟨?_,S.below⟩
  rw[sub_math (A%pr) (B%pr) a0 a1 a2 a3 b0 b1 b2 b3 s0 s1 s2 s3 o0 o1 o2 o3 u0 u1 u2 u3 r0 r1 r2 r3 (by unfold pr;omega) (by unfold pr;omega) (by unfold pr;omega) (by unfold pr;omega) HX.out HY.out H0.out H1.out H2.out H3.out p0 q0 p1 q1 p2 q2 p3 q3 c3 d3 G0.out G1.out G2.out G3.out P0 Q0 P1 Q1 P2 Q2 P3 Q3 C3 D3]
end Go.Proofs.YtdebkddhpogkgaaGreat
