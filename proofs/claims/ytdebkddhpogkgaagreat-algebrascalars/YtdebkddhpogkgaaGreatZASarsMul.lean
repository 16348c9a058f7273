import Derived.Test.YtdebkddhpogkgaaGreatZASarsFldAll
import Derived.Deep.RegionHeld3
set_option linter.unusedSimpArgs false
namespace Go.Proofs.YtdebkddhpogkgaaGreat
open Go.RowKit Go.Calm

theorem timesPlus_v (a b c d:Int) (ha:0≤a) (ha':a<18446744073709551616) (hb:0≤b) (hb':b<18446744073709551616) (hc:0≤c) (hc':c<18446744073709551616) (hd:0≤d) (hd':d<18446744073709551616):
    ∃ lo hi:Int,(∀ w,Calls Tryz.prog 85 #[.int .u64 a,.int .u64 b,.int .u64 c,.int .u64 d] w fun e w'=>e= .returned (.tuple #[.int .u64 lo,.int .u64 hi])∧w'=w)∧0≤lo∧lo<18446744073709551616∧0≤hi∧hi<18446744073709551616∧Hid (lo+18446744073709551616*hi=a*b+c+d):=by
  have hm:a*b≤18446744073709551615*18446744073709551615:=Int.mul_le_mul (by omega) (by omega) (by omega) (by omega)
  have hm0:0≤a*b:=Int.mul_nonneg ha hb
  refine⟨(a*b+c+d)%18446744073709551616,(a*b+c+d) / 18446744073709551616,fun w=> ?_,by omega,by omega,by omega,by omega,by unfold Hid;omega⟩
  refine(timesPlus_any a b c d ha ha' hb hb' hc hc' hd hd' w).mono ?_
  rintro e w' ⟨lo,hi,rfl,rfl,h1,h2,h3,h4,H⟩
  have:=H.out
  generalize a*b=z at*
  exact⟨by rw[show lo=(z+c+d)%18446744073709551616 from by omega,show hi=(z+c+d) / 18446744073709551616 from by omega],rfl⟩
theorem tp_b {f:FuncId} {args:Array Value} {v:Value} (h:∀ w,Calls Tryz.prog f args w fun e w'=>e= .returned v∧w'=w) (w:World):Calls Tryz.prog f args w fun e w'=>e= .returned v∧Below w.heap.size w w':=
  (h w).mono fun e w' ⟨h1,h2⟩=>⟨h1,by rw[h2];exact Below.refl _ _⟩

theorem arr4:Calm.AggT Tryz.prog 43 4:=⟨⟨_,Tryz.underlying43,rfl⟩,by kernel_rfl⟩
theorem zero4:(Tryz.prog.info? 43).bind (·.zero)=some (.agg #[.int .u64 0,.int .u64 0,.int .u64 0,.int .u64 0]):=by kernel_rfl

theorem row (a b0 b1 b2 b3:Int):a*(b0+18446744073709551616*b1+340282366920938463463374607431768211456*b2+6277101735386680763835789423207666416102355444464034512896*b3)=a*b0+18446744073709551616*(a*b1)+340282366920938463463374607431768211456*(a*b2)+6277101735386680763835789423207666416102355444464034512896*(a*b3):=by
  rw[Int.mul_add,Int.mul_add,Int.mul_add,Int.mul_left_comm a 18446744073709551616 b1,Int.mul_left_comm a 340282366920938463463374607431768211456 b2,Int.mul_left_comm a 6277101735386680763835789423207666416102355444464034512896 b3]
theorem col (B a0 a1 a2 a3:Int):(a0+18446744073709551616*a1+340282366920938463463374607431768211456*a2+6277101735386680763835789423207666416102355444464034512896*a3)*B=a0*B+18446744073709551616*(a1*B)+340282366920938463463374607431768211456*(a2*B)+6277101735386680763835789423207666416102355444464034512896*(a3*B):=by
  rw[Int.add_mul,Int.add_mul,Int.add_mul,Int.mul_assoc,Int.mul_assoc,Int.mul_assoc]
theorem round_math (x0 x1 x2 x3 g0 g1 g2 g3 l c0 c1 c2 n0 n1 n2 n3:Int) (H0:l+18446744073709551616*c0=x0+g0+0) (H1:n0+18446744073709551616*c1=x1+g1+c0) (H2:n1+18446744073709551616*c2=x2+g2+c1) (H3:n2+18446744073709551616*n3=x3+g3+c2):
    l+18446744073709551616*(n0+18446744073709551616*n1+340282366920938463463374607431768211456*n2+6277101735386680763835789423207666416102355444464034512896*n3)=x0+18446744073709551616*x1+340282366920938463463374607431768211456*x2+6277101735386680763835789423207666416102355444464034512896*x3+(g0+18446744073709551616*g1+340282366920938463463374607431768211456*g2+6277101735386680763835789423207666416102355444464034512896*g3):=by omega
theorem mul_sum (r0 r1 r2 r3 l0 l1 l2 l3 h1 h2 h3 h4:Int) (R0:l0+18446744073709551616*h1=r0+0) (R1:l1+18446744073709551616*h2=r1+h1) (R2:l2+18446744073709551616*h3=r2+h2) (R3:l3+18446744073709551616*h4=r3+h3):
    r0+18446744073709551616*r1+340282366920938463463374607431768211456*r2+6277101735386680763835789423207666416102355444464034512896*r3=l0+18446744073709551616*l1+340282366920938463463374607431768211456*l2+6277101735386680763835789423207666416102355444464034512896*l3+115792089237316195423570985008687907853269984665640564039457584007913129639936*h4:=by omega
theorem mul_fold (t l0 l1 l2 l3 h0 h1 h2 h3 f0 f1 f2 f3 g0 g1 g2 g3:Int) (E:t=l0+18446744073709551616*l1+340282366920938463463374607431768211456*l2+6277101735386680763835789423207666416102355444464034512896*l3+115792089237316195423570985008687907853269984665640564039457584007913129639936*(h0+18446744073709551616*h1+340282366920938463463374607431768211456*h2+6277101735386680763835789423207666416102355444464034512896*h3))
    (F0:f0+18446744073709551616*g0=h0*38+l0+0) (F1:f1+18446744073709551616*g1=h1*38+l1+g0) (F2:f2+18446744073709551616*g2=h2*38+l2+g1) (F3:f3+18446744073709551616*g3=h3*38+l3+g2):
    (f0+18446744073709551616*f1+340282366920938463463374607431768211456*f2+6277101735386680763835789423207666416102355444464034512896*f3+115792089237316195423570985008687907853269984665640564039457584007913129639936*g3)%pr=t%pr:=by
  have e:t=f0+18446744073709551616*f1+340282366920938463463374607431768211456*f2+6277101735386680763835789423207666416102355444464034512896*f3+115792089237316195423570985008687907853269984665640564039457584007913129639936*g3+pr*(2*(h0+18446744073709551616*h1+340282366920938463463374607431768211456*h2+6277101735386680763835789423207666416102355444464034512896*h3)):=by unfold pr;omega
  rw[e,Int.add_mul_emod_self_left]

set_option maxHeartbeats 8000000 in
theorem Mul_c (A B:Int) (hA:Ok A) (hB:Ok B) (w:World):Calls Tryz.prog 56 #[.agg (feC A),.agg (feC B)] w fun e w'=>e= .returned (.agg (feC (A*B%pr)))∧Below w.heap.size w w':=by
  have S:=Calm.St.start w
  obtain⟨a0,a1,a2,a3,hx,ha0,ha0',ha1,ha1',ha2,ha2',ha3,ha3',HX⟩:=fe_words A hA
  obtain⟨b0,b1,b2,b3,hy,hb0,hb0',hb1,hb1',hb2,hb2',hb3,hb3',HY⟩:=fe_words B hB
  rw[hx,hy]
  clear hx hy
  go_enter Tryz.func56,Tryz.ntmps56
  go_wp2_with (first|(refine wl_box S rfl rfl rfl ?_;clear S;intro b W S)|(refine wl_new (ty:=58) S rfl rfl zeroFe ?_;clear S;intro b W S)|(refine wl_new (ty:=43) S rfl rfl zero4 ?_;clear S;intro b W S))
  rename_i bA WA bB WB bR WR K hK
  have hne:b≠bA∧b≠bB:=by have:=S.nd;simp only[List.map_cons,List.map_nil,List.nodup_cons,List.mem_cons,not_or] at this;exact⟨this.1.2.2.1,this.1.2.1⟩
  obtain⟨hne1,hne2⟩:=hne
  refine wp_loop_rounds 5 ?_
  obtain⟨l0,c00,k00,p00,q00,r00,s00,H00⟩:=timesPlus_v a0 b0 0 0 (by omega) (by omega) (by omega) (by omega) (by omega) (by omega) (by omega) (by omega)
  rw[rounds_succ]
  go_wp2_with (first|(refine wl_box S rfl rfl rfl ?_;clear S;intro b W S)|(refine wl_new (ty:=58) S rfl rfl zeroFe ?_;clear S;intro b W S)|(refine g_load (ty:=58) rfl ?_;refine wl_load (ty:=58) S rfl rfl rfl (by repeat constructor) aggFe (by rfl) ?_)|(refine g_store (ty:=58) rfl ?_;refine wl_store (ty:=58) S rfl rfl rfl rfl (by repeat(first|exact foc_hd|apply foc_tl)) aggFe rfl (by rfl) (w4_one _ _ _ _) ?_;clear S;intro W S)|(refine g_load (ty:=24) rfl ?_;refine wl_loadE (ty:=24) S rfl rfl rfl (by repeat constructor) (by rfl) one64 ?_)|(refine g_store (ty:=24) rfl ?_;refine wl_storeE (ty:=24) S rfl rfl rfl rfl (by rfl) (by repeat(first|exact foc_hd|apply foc_tl)) one64 (by simp) rfl ?_;clear S;intro W S;simp only[Act.eval,zQ] at S))
  obtain⟨hcA,_⟩:=S.cell (b:=bA) (by repeat constructor)
  obtain⟨hcB,_⟩:=S.cell (b:=bB) (by repeat constructor)
  obtain⟨hcL,hfL⟩:=S.cell (b:=b) (by repeat constructor)
  go_region_held3 (fun w'=>w'.cell? ⟨bA,0,none⟩=some (.int .u64 a0)∧w'.cell? ⟨bB,0,none⟩=some (.int .u64 b0)) (simp[*, World.cell?_setCell_far]) (first|(go_at_call 85;refine(k00 _).mono ?_;rintro e w' ⟨rfl,rfl⟩))
  clear hcA hcB hcL hfL k00
  have S':=(Calm.St.setCell S (b:=b) (j:=0) (v:= .int .u64 l0) (old:= #[.int .u64 0,.int .u64 0,.int .u64 0,.int .u64 0]) (by repeat(first|exact foc_hd|apply foc_tl))).drew
  clear S
  obtain⟨W,S,hW⟩:=S'.ex
  rw[← hW]
  clear hW S'
  simp only[List.setIfInBounds_toArray,List.set_cons_zero,List.set_cons_succ] at S
  go_wp2_with (first|(refine wl_box S rfl rfl rfl ?_;clear S;intro b W S)|(refine wl_new (ty:=58) S rfl rfl zeroFe ?_;clear S;intro b W S)|(refine g_load (ty:=58) rfl ?_;refine wl_load (ty:=58) S rfl rfl rfl (by repeat constructor) aggFe (by rfl) ?_)|(refine g_store (ty:=58) rfl ?_;refine wl_store (ty:=58) S rfl rfl rfl rfl (by repeat(first|exact foc_hd|apply foc_tl)) aggFe rfl (by rfl) (w4_one _ _ _ _) ?_;clear S;intro W S)|(refine g_load (ty:=24) rfl ?_;refine wl_loadE (ty:=24) S rfl rfl rfl (by repeat constructor) (by rfl) one64 ?_)|(refine g_store (ty:=24) rfl ?_;refine wl_storeE (ty:=24) S rfl rfl rfl rfl (by rfl) (by repeat(first|exact foc_hd|apply foc_tl)) one64 (by simp) rfl ?_;clear S;intro W S;simp only[Act.eval,zQ] at S))
  obtain⟨n00,c01,k01,p01,q01,r01,s01,H01⟩:=timesPlus_v a0 b1 0 c00 (by omega) (by omega) (by omega) (by omega) (by omega) (by omega) (by omega) (by omega)
  refine Calm.region0 S 13 (by kernel_rfl) (by kernel_rfl) (fun S=> ?_)
  repeat(first|(refine wn_move rfl (by rfl) (Or.inl rfl) ?_;simp only[Act.put,Act.eval,zQ])|(refine wn_move rfl (by rfl) (Or.inr rfl) ?_;simp only[Act.put,Act.eval,zQ])|(refine Calm.gn_load (ty:=24) rfl ?_;refine wn_loadE (ty:=24) S rfl (by rfl) rfl rfl (by repeat constructor) (by rfl) one64 ?_;simp only[Act.put,Act.eval,zQ])|(apply wn_call (f:=85) rfl (by rfl) rfl;(intro w;go_simp;rfl);(intro w;exact tp_b k01 w);simp only[Act.put,Act.eval,zQ])|(apply wn_val rfl (by rfl);(intro w;go_simp;rfl);simp only[Act.put,Act.eval,zQ]))
  (refine wn_nil ?_;clear S;intro W S;simp only[Act.put,List.setIfInBounds_toArray,List.set_cons_zero,List.set_cons_succ,List.drop_succ_cons,List.drop_zero,List.drop_nil])
  clear k01
  go_wp2_with (first|(refine wl_box S rfl rfl rfl ?_;clear S;intro b W S)|(refine wl_new (ty:=58) S rfl rfl zeroFe ?_;clear S;intro b W S)|(refine g_load (ty:=58) rfl ?_;refine wl_load (ty:=58) S rfl rfl rfl (by repeat constructor) aggFe (by rfl) ?_)|(refine g_store (ty:=58) rfl ?_;refine wl_store (ty:=58) S rfl rfl rfl rfl (by repeat(first|exact foc_hd|apply foc_tl)) aggFe rfl (by rfl) (w4_one _ _ _ _) ?_;clear S;intro W S)|(refine g_load (ty:=24) rfl ?_;refine wl_loadE (ty:=24) S rfl rfl rfl (by repeat constructor) (by rfl) one64 ?_)|(refine g_store (ty:=24) rfl ?_;refine wl_storeE (ty:=24) S rfl rfl rfl rfl (by rfl) (by repeat(first|exact foc_hd|apply foc_tl)) one64 (by simp) rfl ?_;clear S;intro W S;simp only[Act.eval,zQ] at S))
  obtain⟨n01,c02,k02,p02,q02,r02,s02,H02⟩:=timesPlus_v a0 b2 0 c01 (by omega) (by omega) (by omega) (by omega) (by omega) (by omega) (by omega) (by omega)
  refine Calm.region0 S 13 (by kernel_rfl) (by kernel_rfl) (fun S=> ?_)
  repeat(first|(refine wn_move rfl (by rfl) (Or.inl rfl) ?_;simp only[Act.put,Act.eval,zQ])|(refine wn_move rfl (by rfl) (Or.inr rfl) ?_;simp only[Act.put,Act.eval,zQ])|(refine Calm.gn_load (ty:=24) rfl ?_;refine wn_loadE (ty:=24) S rfl (by rfl) rfl rfl (by repeat constructor) (by rfl) one64 ?_;simp only[Act.put,Act.eval,zQ])|(apply wn_call (f:=85) rfl (by rfl) rfl;(intro w;go_simp;rfl);(intro w;exact tp_b k02 w);simp only[Act.put,Act.eval,zQ])|(apply wn_val rfl (by rfl);(intro w;go_simp;rfl);simp only[Act.put,Act.eval,zQ]))
  (refine wn_nil ?_;clear S;intro W S;simp only[Act.put,List.setIfInBounds_toArray,List.set_cons_zero,List.set_cons_succ,List.drop_succ_cons,List.drop_zero,List.drop_nil])
  clear k02
  go_wp2_with (first|(refine wl_box S rfl rfl rfl ?_;clear S;intro b W S)|(refine wl_new (ty:=58) S rfl rfl zeroFe ?_;clear S;intro b W S)|(refine g_load (ty:=58) rfl ?_;refine wl_load (ty:=58) S rfl rfl rfl (by repeat constructor) aggFe (by rfl) ?_)|(refine g_store (ty:=58) rfl ?_;refine wl_store (ty:=58) S rfl rfl rfl rfl (by repeat(first|exact foc_hd|apply foc_tl)) aggFe rfl (by rfl) (w4_one _ _ _ _) ?_;clear S;intro W S)|(refine g_load (ty:=24) rfl ?_;refine wl_loadE (ty:=24) S rfl rfl rfl (by repeat constructor) (by rfl) one64 ?_)|(refine g_store (ty:=24) rfl ?_;refine wl_storeE (ty:=24) S rfl rfl rfl rfl (by rfl) (by repeat(first|exact foc_hd|apply foc_tl)) one64 (by simp) rfl ?_;clear S;intro W S;simp only[Act.eval,zQ] at S))
  obtain⟨n02,n03,k03,p03,q03,r03,s03,H03⟩:=timesPlus_v a0 b3 0 c02 (by omega) (by omega) (by omega) (by omega) (by omega) (by omega) (by omega) (by omega)
  refine Calm.region0 S 13 (by kernel_rfl) (by kernel_rfl) (fun S=> ?_)
  repeat(first|(refine wn_move rfl (by rfl) (Or.inl rfl) ?_;simp only[Act.put,Act.eval,zQ])|(refine wn_move rfl (by rfl) (Or.inr rfl) ?_;simp only[Act.put,Act.eval,zQ])|(refine Calm.gn_load (ty:=24) rfl ?_;refine wn_loadE (ty:=24) S rfl (by rfl) rfl rfl (by repeat constructor) (by rfl) one64 ?_;simp only[Act.put,Act.eval,zQ])|(apply wn_call (f:=85) rfl (by rfl) rfl;(intro w;go_simp;rfl);(intro w;exact tp_b k03 w);simp only[Act.put,Act.eval,zQ])|(apply wn_val rfl (by rfl);(intro w;go_simp;rfl);simp only[Act.put,Act.eval,zQ]))
  (refine wn_nil ?_;clear S;intro W S;simp only[Act.put,List.setIfInBounds_toArray,List.set_cons_zero,List.set_cons_succ,List.drop_succ_cons,List.drop_zero,List.drop_nil])
  clear k03
  go_wp2_with (first|(refine wl_box S rfl rfl rfl ?_;clear S;intro b W S)|(refine wl_new (ty:=58) S rfl rfl zeroFe ?_;clear S;intro b W S)|(refine g_load (ty:=58) rfl ?_;refine wl_load (ty:=58) S rfl rfl rfl (by repeat constructor) aggFe (by rfl) ?_)|(refine g_store (ty:=58) rfl ?_;refine wl_store (ty:=58) S rfl rfl rfl rfl (by repeat(first|exact foc_hd|apply foc_tl)) aggFe rfl (by rfl) (w4_one _ _ _ _) ?_;clear S;intro W S)|(refine g_load (ty:=24) rfl ?_;refine wl_loadE (ty:=24) S rfl rfl rfl (by repeat constructor) (by rfl) one64 ?_)|(refine g_store (ty:=24) rfl ?_;refine wl_storeE (ty:=24) S rfl rfl rfl rfl (by rfl) (by repeat(first|exact foc_hd|apply foc_tl)) one64 (by simp) rfl ?_;clear S;intro W S;simp only[Act.eval,zQ] at S))
  obtain⟨l1,c10,k10,p10,q10,r10,s10,H10⟩:=timesPlus_v a1 b0 n00 0 (by omega) (by omega) (by omega) (by omega) (by omega) (by omega) (by omega) (by omega)
  rw[rounds_succ]
  go_wp2_with (first|(refine wl_box S rfl rfl rfl ?_;clear S;intro b W S)|(refine wl_new (ty:=58) S rfl rfl zeroFe ?_;clear S;intro b W S)|(refine g_load (ty:=58) rfl ?_;refine wl_load (ty:=58) S rfl rfl rfl (by repeat constructor) aggFe (by rfl) ?_)|(refine g_store (ty:=58) rfl ?_;refine wl_store (ty:=58) S rfl rfl rfl rfl (by repeat(first|exact foc_hd|apply foc_tl)) aggFe rfl (by rfl) (w4_one _ _ _ _) ?_;clear S;intro W S)|(refine g_load (ty:=24) rfl ?_;refine wl_loadE (ty:=24) S rfl rfl rfl (by repeat constructor) (by rfl) one64 ?_)|(refine g_store (ty:=24) rfl ?_;refine wl_storeE (ty:=24) S rfl rfl rfl rfl (by rfl) (by repeat(first|exact foc_hd|apply foc_tl)) one64 (by simp) rfl ?_;clear S;intro W S;simp only[Act.eval,zQ] at S))
  obtain⟨hcA,_⟩:=S.cell (b:=bA) (by repeat constructor)
  obtain⟨hcB,_⟩:=S.cell (b:=bB) (by repeat constructor)
  obtain⟨hcL,hfL⟩:=S.cell (b:=b) (by repeat constructor)
  go_region_held3 (fun w'=>w'.cell? ⟨bA,1,none⟩=some (.int .u64 a1)∧w'.cell? ⟨bB,0,none⟩=some (.int .u64 b0)) (simp[*, World.cell?_setCell_far]) (first|(go_at_call 85;refine(k10 _).mono ?_;rintro e w' ⟨rfl,rfl⟩))
  clear hcA hcB hcL hfL k10
  have S':=(Calm.St.setCell S (b:=b) (j:=1) (v:= .int .u64 l1) (old:= #[.int .u64 l0,.int .u64 0,.int .u64 0,.int .u64 0]) (by repeat(first|exact foc_hd|apply foc_tl))).drew
  clear S
  obtain⟨W,S,hW⟩:=S'.ex
  rw[← hW]
  clear hW S'
  simp only[List.setIfInBounds_toArray,List.set_cons_zero,List.set_cons_succ] at S
  go_wp2_with (first|(refine wl_box S rfl rfl rfl ?_;clear S;intro b W S)|(refine wl_new (ty:=58) S rfl rfl zeroFe ?_;clear S;intro b W S)|(refine g_load (ty:=58) rfl ?_;refine wl_load (ty:=58) S rfl rfl rfl (by repeat constructor) aggFe (by rfl) ?_)|(refine g_store (ty:=58) rfl ?_;refine wl_store (ty:=58) S rfl rfl rfl rfl (by repeat(first|exact foc_hd|apply foc_tl)) aggFe rfl (by rfl) (w4_one _ _ _ _) ?_;clear S;intro W S)|(refine g_load (ty:=24) rfl ?_;refine wl_loadE (ty:=24) S rfl rfl rfl (by repeat constructor) (by rfl) one64 ?_)|(refine g_store (ty:=24) rfl ?_;refine wl_storeE (ty:=24) S rfl rfl rfl rfl (by rfl) (by repeat(first|exact foc_hd|apply foc_tl)) one64 (by simp) rfl ?_;clear S;intro W S;simp only[Act.eval,zQ] at S))
  obtain⟨n10,c11,k11,p11,q11,r11,s11,H11⟩:=timesPlus_v a1 b1 n01 c10 (by omega) (by omega) (by omega) (by omega) (by omega) (by omega) (by omega) (by omega)
  refine Calm.region0 S 13 (by kernel_rfl) (by kernel_rfl) (fun S=> ?_)
  repeat(first|(refine wn_move rfl (by rfl) (Or.inl rfl) ?_;simp only[Act.put,Act.eval,zQ])|(refine wn_move rfl (by rfl) (Or.inr rfl) ?_;simp only[Act.put,Act.eval,zQ])|(refine Calm.gn_load (ty:=24) rfl ?_;refine wn_loadE (ty:=24) S rfl (by rfl) rfl rfl (by repeat constructor) (by rfl) one64 ?_;simp only[Act.put,Act.eval,zQ])|(apply wn_call (f:=85) rfl (by rfl) rfl;(intro w;go_simp;rfl);(intro w;exact tp_b k11 w);simp only[Act.put,Act.eval,zQ])|(apply wn_val rfl (by rfl);(intro w;go_simp;rfl);simp only[Act.put,Act.eval,zQ]))
  (refine wn_nil ?_;clear S;intro W S;simp only[Act.put,List.setIfInBounds_toArray,List.set_cons_zero,List.set_cons_succ,List.drop_succ_cons,List.drop_zero,List.drop_nil])
  clear k11
  go_wp2_with (first|(refine wl_box S rfl rfl rfl ?_;clear S;intro b W S)|(refine wl_new (ty:=58) S rfl rfl zeroFe ?_;clear S;intro b W S)|(refine g_load (ty:=58) rfl ?_;refine wl_load (ty:=58) S rfl rfl rfl (by repeat constructor) aggFe (by rfl) ?_)|(refine g_store (ty:=58) rfl ?_;refine wl_store (ty:=58) S rfl rfl rfl rfl (by repeat(first|exact foc_hd|apply foc_tl)) aggFe rfl (by rfl) (w4_one _ _ _ _) ?_;clear S;intro W S)|(refine g_load (ty:=24) rfl ?_;refine wl_loadE (ty:=24) S rfl rfl rfl (by repeat constructor) (by rfl) one64 ?_)|(refine g_store (ty:=24) rfl ?_;refine wl_storeE (ty:=24) S rfl rfl rfl rfl (by rfl) (by repeat(first|exact foc_hd|apply foc_tl)) one64 (by simp) rfl ?_;clear S;intro W S;simp only[Act.eval,zQ] at S))
  obtain⟨n11,c12,k12,p12,q12,r12,s12,H12⟩:=timesPlus_v a1 b2 n02 c11 (by omega) (by omega) (by omega) (by omega) (by omega) (by omega) (by omega) (by omega)
  refine Calm.region0 S 13 (by kernel_rfl) (by kernel_rfl) (fun S=> ?_)
  repeat(first|(refine wn_move rfl (by rfl) (Or.inl rfl) ?_;simp only[Act.put,Act.eval,zQ])|(refine wn_move rfl (by rfl) (Or.inr rfl) ?_;simp only[Act.put,Act.eval,zQ])|(refine Calm.gn_load (ty:=24) rfl ?_;refine wn_loadE (ty:=24) S rfl (by rfl) rfl rfl (by repeat constructor) (by rfl) one64 ?_;simp only[Act.put,Act.eval,zQ])|(apply wn_call (f:=85) rfl (by rfl) rfl;(intro w;go_simp;rfl);(intro w;exact tp_b k12 w);simp only[Act.put,Act.eval,zQ])|(apply wn_val rfl (by rfl);(intro w;go_simp;rfl);simp only[Act.put,Act.eval,zQ]))
  (refine wn_nil ?_;clear S;intro W S;simp only[Act.put,List.setIfInBounds_toArray,List.set_cons_zero,List.set_cons_succ,List.drop_succ_cons,List.drop_zero,List.drop_nil])
  clear k12
  go_wp2_with (first|(refine wl_box S rfl rfl rfl ?_;clear S;intro b W S)|(refine wl_new (ty:=58) S rfl rfl zeroFe ?_;clear S;intro b W S)|(refine g_load (ty:=58) rfl ?_;refine wl_load (ty:=58) S rfl rfl rfl (by repeat constructor) aggFe (by rfl) ?_)|(refine g_store (ty:=58) rfl ?_;refine wl_store (ty:=58) S rfl rfl rfl rfl (by repeat(first|exact foc_hd|apply foc_tl)) aggFe rfl (by rfl) (w4_one _ _ _ _) ?_;clear S;intro W S)|(refine g_load (ty:=24) rfl ?_;refine wl_loadE (ty:=24) S rfl rfl rfl (by repeat constructor) (by rfl) one64 ?_)|(refine g_store (ty:=24) rfl ?_;refine wl_storeE (ty:=24) S rfl rfl rfl rfl (by rfl) (by repeat(first|exact foc_hd|apply foc_tl)) one64 (by simp) rfl ?_;clear S;intro W S;simp only[Act.eval,zQ] at S))
  obtain⟨n12,n13,k13,p13,q13,r13,s13,H13⟩:=timesPlus_v a1 b3 n03 c12 (by omega) (by omega) (by omega) (by omega) (by omega) (by omega) (by omega) (by omega)
  refine Calm.region0 S 13 (by kernel_rfl) (by kernel_rfl) (fun S=> ?_)
  repeat(first|(refine wn_move rfl (by rfl) (Or.inl rfl) ?_;simp only[Act.put,Act.eval,zQ])|(refine wn_move rfl (by rfl) (Or.inr rfl) ?_;simp only[Act.put,Act.eval,zQ])|(refine Calm.gn_load (ty:=24) rfl ?_;refine wn_loadE (ty:=24) S rfl (by rfl) rfl rfl (by repeat constructor) (by rfl) one64 ?_;simp only[Act.put,Act.eval,zQ])|(apply wn_call (f:=85) rfl (by rfl) rfl;(intro w;go_simp;rfl);(intro w;exact tp_b k13 w);simp only[Act.put,Act.eval,zQ])|(apply wn_val rfl (by rfl);(intro w;go_simp;rfl);simp only[Act.put,Act.eval,zQ]))
  (refine wn_nil ?_;clear S;intro W S;simp only[Act.put,List.setIfInBounds_toArray,List.set_cons_zero,List.set_cons_succ,List.drop_succ_cons,List.drop_zero,List.drop_nil])
  clear k13
  go_wp2_with (first|(refine wl_box S rfl rfl rfl ?_;clear S;intro b W S)|(refine wl_new (ty:=58) S rfl rfl zeroFe ?_;clear S;intro b W S)|(refine g_load (ty:=58) rfl ?_;refine wl_load (ty:=58) S rfl rfl rfl (by repeat constructor) aggFe (by rfl) ?_)|(refine g_store (ty:=58) rfl ?_;refine wl_store (ty:=58) S rfl rfl rfl rfl (by repeat(first|exact foc_hd|apply foc_tl)) aggFe rfl (by rfl) (w4_one _ _ _ _) ?_;clear S;intro W S)|(refine g_load (ty:=24) rfl ?_;refine wl_loadE (ty:=24) S rfl rfl rfl (by repeat constructor) (by rfl) one64 ?_)|(refine g_store (ty:=24) rfl ?_;refine wl_storeE (ty:=24) S rfl rfl rfl rfl (by rfl) (by repeat(first|exact foc_hd|apply foc_tl)) one64 (by simp) rfl ?_;clear S;intro W S;simp only[Act.eval,zQ] at S))
  obtain⟨l2,c20,k20,p20,q20,r20,s20,H20⟩:=timesPlus_v a2 b0 n10 0 (by omega) (by omega) (by omega) (by omega) (by omega) (by omega) (by omega) (by omega)
  rw[rounds_succ]
  go_wp2_with (first|(refine wl_box S rfl rfl rfl ?_;clear S;intro b W S)|(refine wl_new (ty:=58) S rfl rfl zeroFe ?_;clear S;intro b W S)|(refine g_load (ty:=58) rfl ?_;refine wl_load (ty:=58) S rfl rfl rfl (by repeat constructor) aggFe (by rfl) ?_)|(refine g_store (ty:=58) rfl ?_;refine wl_store (ty:=58) S rfl rfl rfl rfl (by repeat(first|exact foc_hd|apply foc_tl)) aggFe rfl (by rfl) (w4_one _ _ _ _) ?_;clear S;intro W S)|(refine g_load (ty:=24) rfl ?_;refine wl_loadE (ty:=24) S rfl rfl rfl (by repeat constructor) (by rfl) one64 ?_)|(refine g_store (ty:=24) rfl ?_;refine wl_storeE (ty:=24) S rfl rfl rfl rfl (by rfl) (by repeat(first|exact foc_hd|apply foc_tl)) one64 (by simp) rfl ?_;clear S;intro W S;simp only[Act.eval,zQ] at S))
  obtain⟨hcA,_⟩:=S.cell (b:=bA) (by repeat constructor)
  obtain⟨hcB,_⟩:=S.cell (b:=bB) (by repeat constructor)
  obtain⟨hcL,hfL⟩:=S.cell (b:=b) (by repeat constructor)
  go_region_held3 (fun w'=>w'.cell? ⟨bA,2,none⟩=some (.int .u64 a2)∧w'.cell? ⟨bB,0,none⟩=some (.int .u64 b0)) (simp[*, World.cell?_setCell_far]) (first|(go_at_call 85;refine(k20 _).mono ?_;rintro e w' ⟨rfl,rfl⟩))
  clear hcA hcB hcL hfL k20
  have S':=(Calm.St.setCell S (b:=b) (j:=2) (v:= .int .u64 l2) (old:= #[.int .u64 l0,.int .u64 l1,.int .u64 0,.int .u64 0]) (by repeat(first|exact foc_hd|apply foc_tl))).drew
  clear S
  obtain⟨W,S,hW⟩:=S'.ex
  rw[← hW]
  clear hW S'
  simp only[List.setIfInBounds_toArray,List.set_cons_zero,List.set_cons_succ] at S
  go_wp2_with (first|(refine wl_box S rfl rfl rfl ?_;clear S;intro b W S)|(refine wl_new (ty:=58) S rfl rfl zeroFe ?_;clear S;intro b W S)|(refine g_load (ty:=58) rfl ?_;refine wl_load (ty:=58) S rfl rfl rfl (by repeat constructor) aggFe (by rfl) ?_)|(refine g_store (ty:=58) rfl ?_;refine wl_store (ty:=58) S rfl rfl rfl rfl (by repeat(first|exact foc_hd|apply foc_tl)) aggFe rfl (by rfl) (w4_one _ _ _ _) ?_;clear S;intro W S)|(refine g_load (ty:=24) rfl ?_;refine wl_loadE (ty:=24) S rfl rfl rfl (by repeat constructor) (by rfl) one64 ?_)|(refine g_store (ty:=24) rfl ?_;refine wl_storeE (ty:=24) S rfl rfl rfl rfl (by rfl) (by repeat(first|exact foc_hd|apply foc_tl)) one64 (by simp) rfl ?_;clear S;intro W S;simp only[Act.eval,zQ] at S))
  obtain⟨n20,c21,k21,p21,q21,r21,s21,H21⟩:=timesPlus_v a2 b1 n11 c20 (by omega) (by omega) (by omega) (by omega) (by omega) (by omega) (by omega) (by omega)
  refine Calm.region0 S 13 (by kernel_rfl) (by kernel_rfl) (fun S=> ?_)
  repeat(first|(refine wn_move rfl (by rfl) (Or.inl rfl) ?_;simp only[Act.put,Act.eval,zQ])|(refine wn_move rfl (by rfl) (Or.inr rfl) ?_;simp only[Act.put,Act.eval,zQ])|(refine Calm.gn_load (ty:=24) rfl ?_;refine wn_loadE (ty:=24) S rfl (by rfl) rfl rfl (by repeat constructor) (by rfl) one64 ?_;simp only[Act.put,Act.eval,zQ])|(apply wn_call (f:=85) rfl (by rfl) rfl;(intro w;go_simp;rfl);(intro w;exact tp_b k21 w);simp only[Act.put,Act.eval,zQ])|(apply wn_val rfl (by rfl);(intro w;go_simp;rfl);simp only[Act.put,Act.eval,zQ]))
  (refine wn_nil ?_;clear S;intro W S;simp only[Act.put,List.setIfInBounds_toArray,List.set_cons_zero,List.set_cons_succ,List.drop_succ_cons,List.drop_zero,List.drop_nil])
  clear k21
  go_wp2_with (first|(refine wl_box S rfl rfl rfl ?_;clear S;intro b W S)|(refine wl_new (ty:=58) S rfl rfl zeroFe ?_;clear S;intro b W S)|(refine g_load (ty:=58) rfl ?_;refine wl_load (ty:=58) S rfl rfl rfl (by repeat constructor) aggFe (by rfl) ?_)|(refine g_store (ty:=58) rfl ?_;refine wl_store (ty:=58) S rfl rfl rfl rfl (by repeat(first|exact foc_hd|apply foc_tl)) aggFe rfl (by rfl) (w4_one _ _ _ _) ?_;clear S;intro W S)|(refine g_load (ty:=24) rfl ?_;refine wl_loadE (ty:=24) S rfl rfl rfl (by repeat constructor) (by rfl) one64 ?_)|(refine g_store (ty:=24) rfl ?_;refine wl_storeE (ty:=24) S rfl rfl rfl rfl (by rfl) (by repeat(first|exact foc_hd|apply foc_tl)) one64 (by simp) rfl ?_;clear S;intro W S;simp only[Act.eval,zQ] at S))
  obtain⟨n21,c22,k22,p22,q22,r22,s22,H22⟩:=timesPlus_v a2 b2 n12 c21 (by omega) (by omega) (by omega) (by omega) (by omega) (by omega) (by omega) (by omega)
  refine Calm.region0 S 13 (by kernel_rfl) (by kernel_rfl) (fun S=> ?_)
  repeat(first|(refine wn_move rfl (by rfl) (Or.inl rfl) ?_;simp only[Act.put,Act.eval,zQ])|(refine wn_move rfl (by rfl) (Or.inr rfl) ?_;simp only[Act.put,Act.eval,zQ])|(refine Calm.gn_load (ty:=24) rfl ?_;refine wn_loadE (ty:=24) S rfl (by rfl) rfl rfl (by repeat constructor) (by rfl) one64 ?_;simp only[Act.put,Act.eval,zQ])|(apply wn_call (f:=85) rfl (by rfl) rfl;(intro w;go_simp;rfl);(intro w;exact tp_b k22 w);simp only[Act.put,Act.eval,zQ])|(apply wn_val rfl (by rfl);(intro w;go_simp;rfl);simp only[Act.put,Act.eval,zQ]))
  (refine wn_nil ?_;clear S;intro W S;simp only[Act.put,List.setIfInBounds_toArray,List.set_cons_zero,List.set_cons_succ,List.drop_succ_cons,List.drop_zero,List.drop_nil])
  clear k22
  go_wp2_with (first|(refine wl_box S rfl rfl rfl ?_;clear S;intro b W S)|(refine wl_new (ty:=58) S rfl rfl zeroFe ?_;clear S;intro b W S)|(refine g_load (ty:=58) rfl ?_;refine wl_load (ty:=58) S rfl rfl rfl (by repeat constructor) aggFe (by rfl) ?_)|(refine g_store (ty:=58) rfl ?_;refine wl_store (ty:=58) S rfl rfl rfl rfl (by repeat(first|exact foc_hd|apply foc_tl)) aggFe rfl (by rfl) (w4_one _ _ _ _) ?_;clear S;intro W S)|(refine g_load (ty:=24) rfl ?_;refine wl_loadE (ty:=24) S rfl rfl rfl (by repeat constructor) (by rfl) one64 ?_)|(refine g_store (ty:=24) rfl ?_;refine wl_storeE (ty:=24) S rfl rfl rfl rfl (by rfl) (by repeat(first|exact foc_hd|apply foc_tl)) one64 (by simp) rfl ?_;clear S;intro W S;simp only[Act.eval,zQ] at S))
  obtain⟨n22,n23,k23,p23,q23,r23,s23,H23⟩:=timesPlus_v a2 b3 n13 c22 (by omega) (by omega) (by omega) (by omega) (by omega) (by omega) (by omega) (by omega)
  refine Calm.region0 S 13 (by kernel_rfl) (by kernel_rfl) (fun S=> ?_)
  repeat(first|(refine wn_move rfl (by rfl) (Or.inl rfl) ?_;simp only[Act.put,Act.eval,zQ])|(refine wn_move rfl (by rfl) (Or.inr rfl) ?_;simp only[Act.put,Act.eval,zQ])|(refine Calm.gn_load (ty:=24) rfl ?_;refine wn_loadE (ty:=24) S rfl (by rfl) rfl rfl (by repeat constructor) (by rfl) one64 ?_;simp only[Act.put,Act.eval,zQ])|(apply wn_call (f:=85) rfl (by rfl) rfl;(intro w;go_simp;rfl);(intro w;exact tp_b k23 w);simp only[Act.put,Act.eval,zQ])|(apply wn_val rfl (by rfl);(intro w;go_simp;rfl);simp only[Act.put,Act.eval,zQ]))
  (refine wn_nil ?_;clear S;intro W S;simp only[Act.put,List.setIfInBounds_toArray,List.set_cons_zero,List.set_cons_succ,List.drop_succ_cons,List.drop_zero,List.drop_nil])
  clear k23
  go_wp2_with (first|(refine wl_box S rfl rfl rfl ?_;clear S;intro b W S)|(refine wl_new (ty:=58) S rfl rfl zeroFe ?_;clear S;intro b W S)|(refine g_load (ty:=58) rfl ?_;refine wl_load (ty:=58) S rfl rfl rfl (by repeat constructor) aggFe (by rfl) ?_)|(refine g_store (ty:=58) rfl ?_;refine wl_store (ty:=58) S rfl rfl rfl rfl (by repeat(first|exact foc_hd|apply foc_tl)) aggFe rfl (by rfl) (w4_one _ _ _ _) ?_;clear S;intro W S)|(refine g_load (ty:=24) rfl ?_;refine wl_loadE (ty:=24) S rfl rfl rfl (by repeat constructor) (by rfl) one64 ?_)|(refine g_store (ty:=24) rfl ?_;refine wl_storeE (ty:=24) S rfl rfl rfl rfl (by rfl) (by repeat(first|exact foc_hd|apply foc_tl)) one64 (by simp) rfl ?_;clear S;intro W S;simp only[Act.eval,zQ] at S))
  obtain⟨l3,c30,k30,p30,q30,r30,s30,H30⟩:=timesPlus_v a3 b0 n20 0 (by omega) (by omega) (by omega) (by omega) (by omega) (by omega) (by omega) (by omega)
  rw[rounds_succ]
  go_wp2_with (first|(refine wl_box S rfl rfl rfl ?_;clear S;intro b W S)|(refine wl_new (ty:=58) S rfl rfl zeroFe ?_;clear S;intro b W S)|(refine g_load (ty:=58) rfl ?_;refine wl_load (ty:=58) S rfl rfl rfl (by repeat constructor) aggFe (by rfl) ?_)|(refine g_store (ty:=58) rfl ?_;refine wl_store (ty:=58) S rfl rfl rfl rfl (by repeat(first|exact foc_hd|apply foc_tl)) aggFe rfl (by rfl) (w4_one _ _ _ _) ?_;clear S;intro W S)|(refine g_load (ty:=24) rfl ?_;refine wl_loadE (ty:=24) S rfl rfl rfl (by repeat constructor) (by rfl) one64 ?_)|(refine g_store (ty:=24) rfl ?_;refine wl_storeE (ty:=24) S rfl rfl rfl rfl (by rfl) (by repeat(first|exact foc_hd|apply foc_tl)) one64 (by simp) rfl ?_;clear S;intro W S;simp only[Act.eval,zQ] at S))
  obtain⟨hcA,_⟩:=S.cell (b:=bA) (by repeat constructor)
  obtain⟨hcB,_⟩:=S.cell (b:=bB) (by repeat constructor)
  obtain⟨hcL,hfL⟩:=S.cell (b:=b) (by repeat constructor)
  go_region_held3 (fun w'=>w'.cell? ⟨bA,3,none⟩=some (.int .u64 a3)∧w'.cell? ⟨bB,0,none⟩=some (.int .u64 b0)) (simp[*, World.cell?_setCell_far]) (first|(go_at_call 85;refine(k30 _).mono ?_;rintro e w' ⟨rfl,rfl⟩))
  clear hcA hcB hcL hfL k30
  have S':=(Calm.St.setCell S (b:=b) (j:=3) (v:= .int .u64 l3) (old:= #[.int .u64 l0,.int .u64 l1,.int .u64 l2,.int .u64 0]) (by repeat(first|exact foc_hd|apply foc_tl))).drew
  clear S
  obtain⟨W,S,hW⟩:=S'.ex
  rw[← hW]
  clear hW S'
  simp only[List.setIfInBounds_toArray,List.set_cons_zero,List.set_cons_succ] at S
  go_wp2_with (first|(refine wl_box S rfl rfl rfl ?_;clear S;intro b W S)|(refine wl_new (ty:=58) S rfl rfl zeroFe ?_;clear S;intro b W S)|(refine g_load (ty:=58) rfl ?_;refine wl_load (ty:=58) S rfl rfl rfl (by repeat constructor) aggFe (by rfl) ?_)|(refine g_store (ty:=58) rfl ?_;refine wl_store (ty:=58) S rfl rfl rfl rfl (by repeat(first|exact foc_hd|apply foc_tl)) aggFe rfl (by rfl) (w4_one _ _ _ _) ?_;clear S;intro W S)|(refine g_load (ty:=24) rfl ?_;refine wl_loadE (ty:=24) S rfl rfl rfl (by repeat constructor) (by rfl) one64 ?_)|(refine g_store (ty:=24) rfl ?_;refine wl_storeE (ty:=24) S rfl rfl rfl rfl (by rfl) (by repeat(first|exact foc_hd|apply foc_tl)) one64 (by simp) rfl ?_;clear S;intro W S;simp only[Act.eval,zQ] at S))
  obtain⟨n30,c31,k31,p31,q31,r31,s31,H31⟩:=timesPlus_v a3 b1 n21 c30 (by omega) (by omega) (by omega) (by omega) (by omega) (by omega) (by omega) (by omega)
  refine Calm.region0 S 13 (by kernel_rfl) (by kernel_rfl) (fun S=> ?_)
  repeat(first|(refine wn_move rfl (by rfl) (Or.inl rfl) ?_;simp only[Act.put,Act.eval,zQ])|(refine wn_move rfl (by rfl) (Or.inr rfl) ?_;simp only[Act.put,Act.eval,zQ])|(refine Calm.gn_load (ty:=24) rfl ?_;refine wn_loadE (ty:=24) S rfl (by rfl) rfl rfl (by repeat constructor) (by rfl) one64 ?_;simp only[Act.put,Act.eval,zQ])|(apply wn_call (f:=85) rfl (by rfl) rfl;(intro w;go_simp;rfl);(intro w;exact tp_b k31 w);simp only[Act.put,Act.eval,zQ])|(apply wn_val rfl (by rfl);(intro w;go_simp;rfl);simp only[Act.put,Act.eval,zQ]))
  (refine wn_nil ?_;clear S;intro W S;simp only[Act.put,List.setIfInBounds_toArray,List.set_cons_zero,List.set_cons_succ,List.drop_succ_cons,List.drop_zero,List.drop_nil])
  clear k31
  go_wp2_with (first|(refine wl_box S rfl rfl rfl ?_;clear S;intro b W S)|(refine wl_new (ty:=58) S rfl rfl zeroFe ?_;clear S;intro b W S)|(refine g_load (ty:=58) rfl ?_;refine wl_load (ty:=58) S rfl rfl rfl (by repeat constructor) aggFe (by rfl) ?_)|(refine g_store (ty:=58) rfl ?_;refine wl_store (ty:=58) S rfl rfl rfl rfl (by repeat(first|exact foc_hd|apply foc_tl)) aggFe rfl (by rfl) (w4_one _ _ _ _) ?_;clear S;intro W S)|(refine g_load (ty:=24) rfl ?_;refine wl_loadE (ty:=24) S rfl rfl rfl (by repeat constructor) (by rfl) one64 ?_)|(refine g_store (ty:=24) rfl ?_;refine wl_storeE (ty:=24) S rfl rfl rfl rfl (by rfl) (by repeat(first|exact foc_hd|apply foc_tl)) one64 (by simp) rfl ?_;clear S;intro W S;simp only[Act.eval,zQ] at S))
  obtain⟨n31,c32,k32,p32,q32,r32,s32,H32⟩:=timesPlus_v a3 b2 n22 c31 (by omega) (by omega) (by omega) (by omega) (by omega) (by omega) (by omega) (by omega)
  refine Calm.region0 S 13 (by kernel_rfl) (by kernel_rfl) (fun S=> ?_)
  repeat(first|(refine wn_move rfl (by rfl) (Or.inl rfl) ?_;simp only[Act.put,Act.eval,zQ])|(refine wn_move rfl (by rfl) (Or.inr rfl) ?_;simp only[Act.put,Act.eval,zQ])|(refine Calm.gn_load (ty:=24) rfl ?_;refine wn_loadE (ty:=24) S rfl (by rfl) rfl rfl (by repeat constructor) (by rfl) one64 ?_;simp only[Act.put,Act.eval,zQ])|(apply wn_call (f:=85) rfl (by rfl) rfl;(intro w;go_simp;rfl);(intro w;exact tp_b k32 w);simp only[Act.put,Act.eval,zQ])|(apply wn_val rfl (by rfl);(intro w;go_simp;rfl);simp only[Act.put,Act.eval,zQ]))
  (refine wn_nil ?_;clear S;intro W S;simp only[Act.put,List.setIfInBounds_toArray,List.set_cons_zero,List.set_cons_succ,List.drop_succ_cons,List.drop_zero,List.drop_nil])
  clear k32
  go_wp2_with (first|(refine wl_box S rfl rfl rfl ?_;clear S;intro b W S)|(refine wl_new (ty:=58) S rfl rfl zeroFe ?_;clear S;intro b W S)|(refine g_load (ty:=58) rfl ?_;refine wl_load (ty:=58) S rfl rfl rfl (by repeat constructor) aggFe (by rfl) ?_)|(refine g_store (ty:=58) rfl ?_;refine wl_store (ty:=58) S rfl rfl rfl rfl (by repeat(first|exact foc_hd|apply foc_tl)) aggFe rfl (by rfl) (w4_one _ _ _ _) ?_;clear S;intro W S)|(refine g_load (ty:=24) rfl ?_;refine wl_loadE (ty:=24) S rfl rfl rfl (by repeat constructor) (by rfl) one64 ?_)|(refine g_store (ty:=24) rfl ?_;refine wl_storeE (ty:=24) S rfl rfl rfl rfl (by rfl) (by repeat(first|exact foc_hd|apply foc_tl)) one64 (by simp) rfl ?_;clear S;intro W S;simp only[Act.eval,zQ] at S))
  obtain⟨n32,n33,k33,p33,q33,r33,s33,H33⟩:=timesPlus_v a3 b3 n23 c32 (by omega) (by omega) (by omega) (by omega) (by omega) (by omega) (by omega) (by omega)
  refine Calm.region0 S 13 (by kernel_rfl) (by kernel_rfl) (fun S=> ?_)
  repeat(first|(refine wn_move rfl (by rfl) (Or.inl rfl) ?_;simp only[Act.put,Act.eval,zQ])|(refine wn_move rfl (by rfl) (Or.inr rfl) ?_;simp only[Act.put,Act.eval,zQ])|(refine Calm.gn_load (ty:=24) rfl ?_;refine wn_loadE (ty:=24) S rfl (by rfl) rfl rfl (by repeat constructor) (by rfl) one64 ?_;simp only[Act.put,Act.eval,zQ])|(apply wn_call (f:=85) rfl (by rfl) rfl;(intro w;go_simp;rfl);(intro w;exact tp_b k33 w);simp only[Act.put,Act.eval,zQ])|(apply wn_val rfl (by rfl);(intro w;go_simp;rfl);simp only[Act.put,Act.eval,zQ]))
  (refine wn_nil ?_;clear S;intro W S;simp only[Act.put,List.setIfInBounds_toArray,List.set_cons_zero,List.set_cons_succ,List.drop_succ_cons,List.drop_zero,List.drop_nil])
  clear k33
  go_wp2_with (first|(refine wl_box S rfl rfl rfl ?_;clear S;intro b W S)|(refine wl_new (ty:=58) S rfl rfl zeroFe ?_;clear S;intro b W S)|(refine g_load (ty:=58) rfl ?_;refine wl_load (ty:=58) S rfl rfl rfl (by repeat constructor) aggFe (by rfl) ?_)|(refine g_store (ty:=58) rfl ?_;refine wl_store (ty:=58) S rfl rfl rfl rfl (by repeat(first|exact foc_hd|apply foc_tl)) aggFe rfl (by rfl) (w4_one _ _ _ _) ?_;clear S;intro W S)|(refine g_load (ty:=24) rfl ?_;refine wl_loadE (ty:=24) S rfl rfl rfl (by repeat constructor) (by rfl) one64 ?_)|(refine g_store (ty:=24) rfl ?_;refine wl_storeE (ty:=24) S rfl rfl rfl rfl (by rfl) (by repeat(first|exact foc_hd|apply foc_tl)) one64 (by simp) rfl ?_;clear S;intro W S;simp only[Act.eval,zQ] at S))
  rw[rounds_succ]
  go_wp2_with ((refine g_load (ty:=24) rfl ?_;refine wl_loadE (ty:=24) S rfl rfl rfl (by repeat constructor) (by rfl) one64 ?_))
  obtain⟨f0,g0,e0,u0,v0,x0,y0,F0⟩:=timesPlus_v n30 38 l0 0 (by omega) (by omega) (by omega) (by omega) (by omega) (by omega) (by omega) (by omega)
  refine(tp_b e0 _).mono ?_
  rintro e W1 ⟨rfl,hb⟩
  have S:=S.call hb
  clear hb e0
  go_wp2_with ((refine g_load (ty:=24) rfl ?_;refine wl_loadE (ty:=24) S rfl rfl rfl (by repeat constructor) (by rfl) one64 ?_))
  obtain⟨f1,g1,e1,u1,v1,x1,y1,F1⟩:=timesPlus_v n31 38 l1 g0 (by omega) (by omega) (by omega) (by omega) (by omega) (by omega) (by omega) (by omega)
  refine(tp_b e1 _).mono ?_
  rintro e W1 ⟨rfl,hb⟩
  have S:=S.call hb
  clear hb e1
  go_wp2_with ((refine g_load (ty:=24) rfl ?_;refine wl_loadE (ty:=24) S rfl rfl rfl (by repeat constructor) (by rfl) one64 ?_))
  obtain⟨f2,g2,e2,u2,v2,x2,y2,F2⟩:=timesPlus_v n32 38 l2 g1 (by omega) (by omega) (by omega) (by omega) (by omega) (by omega) (by omega) (by omega)
  refine(tp_b e2 _).mono ?_
  rintro e W1 ⟨rfl,hb⟩
  have S:=S.call hb
  clear hb e2
  go_wp2_with ((refine g_load (ty:=24) rfl ?_;refine wl_loadE (ty:=24) S rfl rfl rfl (by repeat constructor) (by rfl) one64 ?_))
  obtain⟨f3,g3,e3,u3,v3,x3,y3,F3⟩:=timesPlus_v n33 38 l3 g2 (by omega) (by omega) (by omega) (by omega) (by omega) (by omega) (by omega) (by omega)
  refine(tp_b e3 _).mono ?_
  rintro e W1 ⟨rfl,hb⟩
  have S:=S.call hb
  clear hb e3
  go_wp2_with (first|(refine wl_box S rfl rfl rfl ?_;clear S;intro b W S)|(refine wl_new (ty:=58) S rfl rfl zeroFe ?_;clear S;intro b W S)|(refine g_load (ty:=58) rfl ?_;refine wl_load (ty:=58) S rfl rfl rfl (by repeat constructor) aggFe (by rfl) ?_)|(refine g_store (ty:=58) rfl ?_;refine wl_store (ty:=58) S rfl rfl rfl rfl (by repeat(first|exact foc_hd|apply foc_tl)) aggFe rfl (by rfl) (w4_one _ _ _ _) ?_;clear S;intro W S)|(refine g_load (ty:=24) rfl ?_;refine wl_loadE (ty:=24) S rfl rfl rfl (by repeat constructor) (by rfl) one64 ?_)|(refine g_store (ty:=24) rfl ?_;refine wl_storeE (ty:=24) S rfl rfl rfl rfl (by rfl) (by repeat(first|exact foc_hd|apply foc_tl)) one64 (by simp) rfl ?_;clear S;intro W S;simp only[Act.eval,zQ] at S))
  have hg:g3≤4294967296:=by have:=F3.out;omega
  refine(settle_any f0 f1 f2 f3 g3 u0 v0 u1 v1 u2 v2 u3 v3 x3 hg _).mono ?_
  rintro e W1 ⟨rfl,hb⟩
  have S:=S.call hb
  clear hb
  go_wp2_with ((refine g_store (ty:=58) rfl ?_;refine wl_store (ty:=58) S rfl rfl rfl rfl (by repeat(first|exact foc_hd|apply foc_tl)) aggFe rfl (by rfl) (w4_one _ _ _ _) ?_;clear S;intro W S))
  refine Calm.ret_cell S (by rfl) (by rfl) (by repeat constructor) aggFe (by rfl) (by rfl) ?_
  refine⟨?_,S.below⟩
  have R0:=round_math _ _ _ _ _ _ _ _ _ _ _ _ _ _ _ _ H00.out H01.out H02.out H03.out
  have R1:=round_math _ _ _ _ _ _ _ _ _ _ _ _ _ _ _ _ H10.out H11.out H12.out H13.out
  have R2:=round_math _ _ _ _ _ _ _ _ _ _ _ _ _ _ _ _ H20.out H21.out H22.out H23.out
  have R3:=round_math _ _ _ _ _ _ _ _ _ _ _ _ _ _ _ _ H30.out H31.out H32.out H33.out
  rw[← row,← HY.out] at R0 R1 R2 R3
  have E:=mul_sum (a0*B) (a1*B) (a2*B) (a3*B) l0 l1 l2 l3 _ _ _ _ (by rw[R0];simp) R1 R2 R3
  rw[← col,← HX.out] at E
  rw[mul_fold (A*B) l0 l1 l2 l3 n30 n31 n32 n33 f0 f1 f2 f3 g0 g1 g2 g3 E F0.out F1.out F2.out F3.out]
end Go.Proofs.YtdebkddhpogkgaaGreat
