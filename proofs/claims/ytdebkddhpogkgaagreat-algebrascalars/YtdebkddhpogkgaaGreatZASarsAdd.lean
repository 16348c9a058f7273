import Derived.Test.YtdebkddhpogkgaaGreatZASarsSettle
import Derived.LoopN
import Derived.RegionTactic
import Derived.BigRegion
import Derived.Laws.NewBlocks
namespace Go.Proofs.YtdebkddhpogkgaaGreat
open Go.RowKit

theorem add64E (x y c:Int) (hx:0≤x) (hx':x<18446744073709551616) (hy:0≤y) (hy':y<18446744073709551616) (hc0:0≤c) (hc:c≤1):∃ s o:Int,(∀ w,(callFunc 49 #[.int .u64 x,.int .u64 y,.int .u64 c]).run Tryz.prog w= .ok (.value (.tuple #[.int .u64 s,.int .u64 o])) w)∧0≤s∧s<18446744073709551616∧0≤o∧o≤1∧Hid (s+18446744073709551616*o=x+y+c):=
  ⟨_,_,add64 x y c hx hy hc0 hc,by omega,by omega,by omega,by omega,by unfold Hid;omega⟩
theorem sub64E' (x y b:Int) (hx:0≤x) (hx':x<18446744073709551616) (hy:0≤y) (hy':y<18446744073709551616) (hb0:0≤b) (hb:b≤1):∃ s o:Int,(∀ w,(callFunc 50 #[.int .u64 x,.int .u64 y,.int .u64 b]).run Tryz.prog w= .ok (.value (.tuple #[.int .u64 s,.int .u64 o])) w)∧0≤s∧s<18446744073709551616∧0≤o∧o≤1∧Hid (s - 18446744073709551616*o=x - y - b):=
  ⟨_,_,sub64 x y b hx hy hy' hb0 hb,by omega,by omega,(bor_bd _ _).1,(bor_bd _ _).2,by unfold Hid bor;split<;>omega⟩

theorem fe_agg (n:Int):∃ a b c d:Int,fe n= .agg #[.int .u64 a,.int .u64 b,.int .u64 c,.int .u64 d]:=⟨_,_,_,_,rfl⟩
theorem bcell {W w1:World} (hb:Below W.heap.size W w1):(∀ b o,b<W.heap.size→w1.cell? ⟨b,o,none⟩=W.cell? ⟨b,o,none⟩)∧(∀ b o,b<W.heap.size→w1.frozen? ⟨b,o,none⟩=W.frozen? ⟨b,o,none⟩):=
  ⟨fun b o h=>hb.cell (p:=⟨b,o,none⟩) h,fun b o h=>hb.frozen (p:=⟨b,o,none⟩) h⟩
theorem add_fe (a0 a1 a2 a3 b0 b1 b2 b3 s0 s1 s2 s3 o0 o1 o2 o3:Int) (H0:s0+18446744073709551616*o0=a0+b0+0) (H1:s1+18446744073709551616*o1=a1+b1+o0) (H2:s2+18446744073709551616*o2=a2+b2+o1) (H3:s3+18446744073709551616*o3=a3+b3+o2):
    fe ((a0+18446744073709551616*a1+340282366920938463463374607431768211456*a2+6277101735386680763835789423207666416102355444464034512896*a3+(b0+18446744073709551616*b1+340282366920938463463374607431768211456*b2+6277101735386680763835789423207666416102355444464034512896*b3))%pr)=fe ((s0+18446744073709551616*s1+340282366920938463463374607431768211456*s2+6277101735386680763835789423207666416102355444464034512896*s3+115792089237316195423570985008687907853269984665640564039457584007913129639936*o3)%pr):=by
  rw[show a0+18446744073709551616*a1+340282366920938463463374607431768211456*a2+6277101735386680763835789423207666416102355444464034512896*a3+(b0+18446744073709551616*b1+340282366920938463463374607431768211456*b2+6277101735386680763835789423207666416102355444464034512896*b3)=s0+18446744073709551616*s1+340282366920938463463374607431768211456*s2+6277101735386680763835789423207666416102355444464034512896*s3+115792089237316195423570985008687907853269984665640564039457584007913129639936*o3 from by omega]

set_option maxHeartbeats 1000000 in
theorem add_any (a0 a1 a2 a3 b0 b1 b2 b3:Int) (ha0:0≤a0) (ha0':a0<18446744073709551616) (ha1:0≤a1) (ha1':a1<18446744073709551616) (ha2:0≤a2) (ha2':a2<18446744073709551616) (ha3:0≤a3) (ha3':a3<18446744073709551616) (hb0:0≤b0) (hb0':b0<18446744073709551616) (hb1:0≤b1) (hb1':b1<18446744073709551616) (hb2:0≤b2) (hb2':b2<18446744073709551616) (hb3:0≤b3) (hb3':b3<18446744073709551616) (w:World):
    Calls Tryz.prog 58 #[.agg #[.int .u64 a0,.int .u64 a1,.int .u64 a2,.int .u64 a3],.agg #[.int .u64 b0,.int .u64 b1,.int .u64 b2,.int .u64 b3]] w fun e w'=>
      e= .returned (fe ((a0+18446744073709551616*a1+340282366920938463463374607431768211456*a2+6277101735386680763835789423207666416102355444464034512896*a3+(b0+18446744073709551616*b1+340282366920938463463374607431768211456*b2+6277101735386680763835789423207666416102355444464034512896*b3))%pr))∧Below w.heap.size w w':=by
  obtain⟨s0,o0,k0,p0,q0,r0,t0,H0⟩:=add64E a0 b0 0 ha0 ha0' hb0 hb0' (by omega) (by omega)
  obtain⟨s1,o1,k1,p1,q1,r1,t1,H1⟩:=add64E a1 b1 o0 ha1 ha1' hb1 hb1' (by omega) (by omega)
  obtain⟨s2,o2,k2,p2,q2,r2,t2,H2⟩:=add64E a2 b2 o1 ha2 ha2' hb2 hb2' (by omega) (by omega)
  obtain⟨s3,o3,k3,p3,q3,r3,t3,H3⟩:=add64E a3 b3 o2 ha3 ha3' hb3 hb3' (by omega) (by omega)
  go_enter Tryz.func58,Tryz.ntmps58
  go_wp2_with fail
  refine wp_loop_rounds 5 ?_
  rw[rounds_succ]
  go_wp2_with fail
  go_region
  go_wp2_with fail
  rw[rounds_succ]
  go_wp2_with fail
  go_region
  go_wp2_with fail
  rw[rounds_succ]
  go_wp2_with fail
  go_region
  go_wp2_with fail
  rw[rounds_succ]
  go_wp2_with fail
  go_region
  go_wp2_with fail
  rw[rounds_succ]
  go_wp2_with fail
  refine(settle_any s0 s1 s2 s3 o3 p0 q0 p1 q1 p2 q2 p3 q3 r3 (by omega) _).mono ?_
  rintro e w1 ⟨he,hb⟩
  clear k0 k1 k2 k3
  obtain⟨x0,x1,x2,x3,hx⟩:=fe_agg ((s0+18446744073709551616*s1+340282366920938463463374607431768211456*s2+6277101735386680763835789423207666416102355444464034512896*s3+115792089237316195423570985008687907853269984665640564039457584007913129639936*o3)%pr)
  rw[hx] at he
  subst he
  have HX:=hide hx
  clear hx
  obtain⟨hc,hf⟩:=bcell hb
  go_wp2_with fail
  refine bodyPost_ret (v:= .agg #[.int .u64 x0,.int .u64 x1,.int .u64 x2,.int .u64 x3]) (by simp[results,Tryz.results58,go_sem,hc]) rfl ⟨by rw[add_fe _ _ _ _ _ _ _ _ s0 s1 s2 s3 o0 o1 o2 o3 H0.out H1.out H2.out H3.out,HX.out],?_⟩
  clear hc hf
  refine Below.setCell (Below.setCell (Below.setCell (Below.setCell (Below.trans ?_ (hb.mono (by simp;omega))) (by simp;omega) _) (by simp;omega) _) (by simp;omega) _) (by simp;omega) _
  repeat(first|exact Below.refl _ _|refine Below.drew ?_|refine Below.alloc ?_ (by simp<;>omega) _)
end Go.Proofs.YtdebkddhpogkgaaGreat
