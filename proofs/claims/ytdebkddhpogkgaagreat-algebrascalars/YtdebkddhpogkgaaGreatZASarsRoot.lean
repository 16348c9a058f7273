import Derived.Test.YtdebkddhpogkgaaGreatZASarsPwAll
set_option linter.unusedSimpArgs false
namespace Go.Proofs.YtdebkddhpogkgaaGreat
open Go.RowKit Go.Calm

def eInv:Int:=57896044618658097711785492504343953926634992332820282019728792003956564819947
def eRoot:Int:=7237005577332262213973186563042994240829374041602535252466099000494570602493
theorem feC_root:feC eRoot= #[.int .u64 18446744073709551613,.int .u64 18446744073709551615,.int .u64 18446744073709551615,.int .u64 1152921504606846975]:=by kernel_rfl
theorem ok_root:Ok eRoot:=by unfold Ok eRoot;omega
def invF (A:Int):Int:=pm A eInv.toNat


def rtV3 (v:Int):Int:=v*v%pr*v%pr
def rtUV3 (u v:Int):Int:=u*rtV3 v%pr
def rtUV7 (u v:Int):Int:=rtUV3 u v*rtV3 v%pr*v%pr
def rtR (u v:Int):Int:=rtUV3 u v*pm (rtUV7 u v) eRoot.toNat%pr
def rtGot (u v:Int):Int:=v*(rtR u v*rtR u v%pr)%pr
def rtTurned (u v:Int):Prop:=rtGot u v%pr= -u%pr%pr
def rtLast (u v:Int):Prop:=rtGot u v%pr=iNum*(-u%pr)%pr%pr
theorem ok_rtV3 (v:Int):Ok (rtV3 v):=ok_mod _
theorem ok_rtUV3 (u v:Int):Ok (rtUV3 u v):=ok_mod _
theorem ok_rtUV7 (u v:Int):Ok (rtUV7 u v):=ok_mod _
theorem ok_rtR (u v:Int):Ok (rtR u v):=ok_mod _
theorem ok_rtGot (u v:Int):Ok (rtGot u v):=ok_mod _

theorem ret_tuple {a:Act} {w0 W:World} {L:List Calm.Blk} (S:Calm.St w0 W L) {fn:Func} {p q:Tmp} {ty:TypeId} {b:Nat} {cs:Array Value} {t:TypeId} {k:Nat} {v:Value} {qq:Ending→World→Prop} (hr:fn.results= #[.cell p ty,.tmp q]) (hp:a.tmps.getD p undef= .pointer (some ⟨b,0,none⟩)) (hm:⟨b,cs,t⟩ ∈ L)
    (T:Calm.AggT Tryz.prog ty k) (hk:k=cs.size) (hq:a.tmps.getD q undef=v) (hdf:a.defers= [])
    (h:qq (.returned (.tuple #[.agg cs,v])) W):bodyPost Tryz.prog fn qq .ret a W:=
  bodyPost_ret (v:= .tuple #[.agg cs,v]) (by
    have hp':a.tmps[p]?.getD undef= .pointer (some ⟨b,0,none⟩):=by simpa using hp
    have hq':a.tmps[q]?.getD undef=v:=by simpa using hq
    simp[results,hr,hp',hq',asAddr,T.load W b t cs (S.has _ hm) hk]) hdf h

set_option maxHeartbeats 4000000 in
theorem Root_c (U V:Int) (hU:Ok U) (hV:Ok V) (r:Int) (ok:Bool) (hr:(rtTurned U V∧ok=true∧r=absF (iNum*rtR U V%pr))∨(¬ rtTurned U V∧rtLast U V∧ok=decide (rtGot U V%pr=U%pr)∧r=absF (iNum*rtR U V%pr))∨(¬ rtTurned U V∧¬ rtLast U V∧ok=decide (rtGot U V%pr=U%pr)∧r=absF (rtR U V))) (w:World):
    Calls Tryz.prog 61 #[.agg (feC U),.agg (feC V)] w fun e w'=>e= .returned (.tuple #[.agg (feC r),.bool ok])∧Below w.heap.size w w':=by
  have S:=Calm.St.start w
  have hs:=fun w=>Pow_c (rtUV7 U V) eRoot (ok_rtUV7 U V) ok_root w
  rw[feC_root] at hs
  have Hs:=hide hs
  have HR:=hide hr
  clear hs hr
  go_enter Tryz.func61,Tryz.ntmps61
  go_wp2_with (first|(refine wl_box S rfl rfl rfl ?_;clear S;intro b W S)|(refine wl_new (ty:=58) S rfl rfl zeroFe ?_;clear S;intro b W S))
  refine Calm.region1 S 6 5 6 #[.int .u64 0,.int .u64 0,.int .u64 0,.int .u64 0] 58 (by kernel_rfl) (by kernel_rfl) rfl rfl zeroFe (fun S=> ?_)
  repeat(first|(refine wn_skip rfl ?_)|(refine Calm.gn_load (ty:=58) rfl ?_;refine wn_load (ty:=58) S rfl (by rfl) rfl rfl (by repeat constructor) aggFe (by rfl) ?_;simp only[Act.put,Act.eval,zQ])|(apply wn_call (f:=56) rfl (by rfl) rfl;(intro w;go_simp;rfl);(intro w;exact Mul_c _ _ (by first|exact ok_mod _|assumption) (by first|exact ok_mod _|assumption) w);simp only[Act.put,Act.eval,zQ]))
  (refine wn_nil ?_;clear S;intro b W S;simp only[Act.put,List.setIfInBounds_toArray,List.set_cons_zero,List.set_cons_succ,List.drop_succ_cons,List.drop_zero,List.drop_nil])
  rw[show V*V%pr*V%pr=rtV3 V from rfl]
  go_wp2_with (first|(refine g_load (ty:=58) rfl ?_;refine wl_load (ty:=58) S rfl rfl rfl (by repeat constructor) aggFe (by rfl) ?_)|(refine g_store (ty:=58) rfl ?_;refine wl_store (ty:=58) S rfl rfl rfl rfl (by repeat(first|exact foc_hd|apply foc_tl)) aggFe rfl (by rfl) (w4_one _ _ _ _) ?_;clear S;intro W S))
  refine(Mul_c U (rtV3 V) hU (ok_rtV3 V) _).mono ?_
  rintro e W1 ⟨rfl,hb⟩
  have S:=S.call hb
  clear hb
  rw[show U*rtV3 V%pr=rtUV3 U V from rfl]
  go_wp2_with (first|(refine wl_new (ty:=58) S rfl rfl zeroFe ?_;clear S;intro b W S)|(refine g_store (ty:=58) rfl ?_;refine wl_store (ty:=58) S rfl rfl rfl rfl (by repeat(first|exact foc_hd|apply foc_tl)) aggFe rfl (by rfl) (w4_one _ _ _ _) ?_;clear S;intro W S))
  refine Calm.region1 S 6 5 8 #[.int .u64 0,.int .u64 0,.int .u64 0,.int .u64 0] 58 (by kernel_rfl) (by kernel_rfl) rfl rfl zeroFe (fun S=> ?_)
  repeat(first|(refine wn_skip rfl ?_)|(refine Calm.gn_load (ty:=58) rfl ?_;refine wn_load (ty:=58) S rfl (by rfl) rfl rfl (by repeat constructor) aggFe (by rfl) ?_;simp only[Act.put,Act.eval,zQ])|(apply wn_call (f:=56) rfl (by rfl) rfl;(intro w;go_simp;rfl);(intro w;exact Mul_c _ _ (by first|assumption|exact ok_rtV3 _|exact ok_rtUV3 _ _|exact ok_mod _) (by first|assumption|exact ok_rtV3 _|exact ok_mod _) w);simp only[Act.put,Act.eval,zQ]))
  (refine wn_nil ?_;clear S;intro b W S;simp only[Act.put,List.setIfInBounds_toArray,List.set_cons_zero,List.set_cons_succ,List.drop_succ_cons,List.drop_zero,List.drop_nil])
  rw[show rtUV3 U V*rtV3 V%pr*V%pr=rtUV7 U V from rfl]
  go_wp2_with ((refine g_store (ty:=58) rfl ?_;refine wl_store (ty:=58) S rfl rfl rfl rfl (by repeat(first|exact foc_hd|apply foc_tl)) aggFe rfl (by rfl) (w4_one _ _ _ _) ?_;clear S;intro W S))
  refine Calm.region0 S 5 (by kernel_rfl) (by kernel_rfl) (fun S=> ?_)
  repeat(first|(refine Calm.gn_load (ty:=58) rfl ?_;refine wn_load (ty:=58) S rfl (by rfl) rfl rfl (by repeat constructor) aggFe (by rfl) ?_;simp only[Act.put,Act.eval,zQ])|(apply wn_call (f:=87) rfl (by rfl) rfl;(intro w;go_simp;rfl);(intro w;exact Hs.out w);simp only[Act.put,Act.eval,zQ])|(apply wn_call (f:=56) rfl (by rfl) rfl;(intro w;go_simp;rfl);(intro w;exact Mul_c _ _ (ok_rtUV3 _ _) (ok_pm _ _) w);simp only[Act.put,Act.eval,zQ])|(apply wn_val rfl (by rfl);(intro w;go_simp;rfl);simp only[Act.put,Act.eval,zQ]))
  (refine wn_nil ?_;clear S;intro W S;simp only[Act.put,List.setIfInBounds_toArray,List.set_cons_zero,List.set_cons_succ,List.drop_succ_cons,List.drop_zero,List.drop_nil])
  rw[show rtUV3 U V*pm (rtUV7 U V) eRoot.toNat%pr=rtR U V from rfl]
  go_wp2_with ((refine g_store (ty:=58) rfl ?_;refine wl_store (ty:=58) S rfl rfl rfl rfl (by repeat(first|exact foc_hd|apply foc_tl)) aggFe rfl (by rfl) (w4_one _ _ _ _) ?_;clear S;intro W S))
  refine Calm.region1 S 6 5 9 #[.int .u64 0,.int .u64 0,.int .u64 0,.int .u64 0] 58 (by kernel_rfl) (by kernel_rfl) rfl rfl zeroFe (fun S=> ?_)
  repeat(first|(refine wn_skip rfl ?_)|(refine Calm.gn_load (ty:=58) rfl ?_;refine wn_load (ty:=58) S rfl (by rfl) rfl rfl (by repeat constructor) aggFe (by rfl) ?_;simp only[Act.put,Act.eval,zQ])|(apply wn_call (f:=56) rfl (by rfl) rfl;(intro w;go_simp;rfl);(intro w;exact Mul_c _ _ (by first|assumption|exact ok_rtR _ _) (by first|exact ok_rtR _ _|exact ok_mod _) w);simp only[Act.put,Act.eval,zQ]))
  (refine wn_nil ?_;clear S;intro b W S;simp only[Act.put,List.setIfInBounds_toArray,List.set_cons_zero,List.set_cons_succ,List.drop_succ_cons,List.drop_zero,List.drop_nil])
  rw[show V*(rtR U V*rtR U V%pr)%pr=rtGot U V from rfl]
  go_wp2_with (first|(refine g_load (ty:=58) rfl ?_;refine wl_load (ty:=58) S rfl rfl rfl (by repeat constructor) aggFe (by rfl) ?_)|(refine g_store (ty:=58) rfl ?_;refine wl_store (ty:=58) S rfl rfl rfl rfl (by repeat(first|exact foc_hd|apply foc_tl)) aggFe rfl (by rfl) (w4_one _ _ _ _) ?_;clear S;intro W S))
  refine(Neg_c U hU _).mono ?_
  rintro e W1 ⟨rfl,hb⟩
  have S:=S.call hb
  clear hb
  go_wp2_with (first|(refine wl_new (ty:=58) S rfl rfl zeroFe ?_;clear S;intro b W S)|(refine g_load (ty:=58) rfl ?_;refine wl_load (ty:=58) S rfl rfl rfl (by repeat constructor) aggFe (by rfl) ?_)|(refine g_store (ty:=58) rfl ?_;refine wl_store (ty:=58) S rfl rfl rfl rfl (by repeat(first|exact foc_hd|apply foc_tl)) aggFe rfl (by rfl) (w4_one _ _ _ _) ?_;clear S;intro W S))
  rcases HR.out with⟨h1,hk,hr⟩|⟨h1,h2,hk,hr⟩|⟨h1,h2,hk,hr⟩
  · have e1 : decide (rtGot U V % pr = -U % pr % pr) = true := by simpa [rtTurned] using h1
    have Hk:=hide hk
    have Hr:=hide hr
    clear hk hr h1
    refine(Same_c (rtGot U V) (-U%pr) (ok_rtGot _ _) (ok_mod _) _).mono ?_
    rintro e W1 ⟨he,hb⟩
    rw[e1] at he
    subst he
    clear e1
    have S:=S.call hb
    clear hb
    go_wp2_with (first|(refine wl_box S rfl rfl rfl ?_;clear S;intro b W S)|(refine wl_new (ty:=58) S rfl rfl zeroFe ?_;clear S;intro b W S)|(refine g_load (ty:=58) rfl ?_;refine wl_load (ty:=58) S rfl rfl rfl (by repeat constructor) aggFe (by rfl) ?_)|(refine g_store (ty:=58) rfl ?_;refine wl_store (ty:=58) S rfl rfl rfl rfl (by repeat(first|exact foc_hd|apply foc_tl)) aggFe rfl (by rfl) (w4_one _ _ _ _) ?_;clear S;intro W S)|(refine g_load (ty:=24) rfl ?_;refine wl_loadE (ty:=24) S rfl rfl rfl (by repeat constructor) (by rfl) one64 ?_)|(refine g_store (ty:=24) rfl ?_;refine wl_storeE (ty:=24) S rfl rfl rfl rfl (by rfl) (by repeat(first|exact foc_hd|apply foc_tl)) one64 (by simp) rfl ?_;clear S;intro W S;simp only[Act.eval,zQ] at S))
    refine Calm.region0 S 8 (by kernel_rfl) (by kernel_rfl) (fun S=> ?_)
    repeat(first|(refine wn_move rfl (by rfl) (Or.inl rfl) ?_;simp only[Act.put,Act.eval,zQ])|(refine wn_off rfl (by rfl) ?_;simp only[Act.put,Act.eval,zQ])|(apply wn_val rfl (by rfl);(intro w;go_simp;rfl);simp only[Act.put,Act.eval,zQ]))
    (refine wn_nil ?_;clear S;intro W S;simp only[Act.put,List.setIfInBounds_toArray,List.set_cons_zero,List.set_cons_succ,List.drop_succ_cons,List.drop_zero,List.drop_nil])
    go_wp2_with (first|(refine wl_box S rfl rfl rfl ?_;clear S;intro b W S)|(refine wl_new (ty:=58) S rfl rfl zeroFe ?_;clear S;intro b W S)|(refine g_load (ty:=58) rfl ?_;refine wl_load (ty:=58) S rfl rfl rfl (by repeat constructor) aggFe (by rfl) ?_)|(refine g_store (ty:=58) rfl ?_;refine wl_store (ty:=58) S rfl rfl rfl rfl (by repeat(first|exact foc_hd|apply foc_tl)) aggFe rfl (by rfl) (w4_one _ _ _ _) ?_;clear S;intro W S)|(refine g_load (ty:=24) rfl ?_;refine wl_loadE (ty:=24) S rfl rfl rfl (by repeat constructor) (by rfl) one64 ?_)|(refine g_store (ty:=24) rfl ?_;refine wl_storeE (ty:=24) S rfl rfl rfl rfl (by rfl) (by repeat(first|exact foc_hd|apply foc_tl)) one64 (by simp) rfl ?_;clear S;intro W S;simp only[Act.eval,zQ] at S))
    refine Calm.region0 S 3 (by kernel_rfl) (by kernel_rfl) (fun S=> ?_)
    repeat(first|(refine Calm.gn_load (ty:=58) rfl ?_;refine wn_load (ty:=58) S rfl (by rfl) rfl rfl (by repeat constructor) aggFe (by rfl) ?_;simp only[Act.put,Act.eval,zQ])|(apply wn_call (f:=66) rfl (by rfl) rfl;(intro w;go_simp;rfl);(intro w;exact I_c w);simp only[Act.put,Act.eval,zQ])|(apply wn_call (f:=56) rfl (by rfl) rfl;(intro w;go_simp;rfl);(intro w;exact Mul_c _ _ ok_i (ok_rtR _ _) w);simp only[Act.put,Act.eval,zQ]))
    (refine wn_nil ?_;clear S;intro W S;simp only[Act.put,List.setIfInBounds_toArray,List.set_cons_zero,List.set_cons_succ,List.drop_succ_cons,List.drop_zero,List.drop_nil])
    go_wp2_with (first|(refine g_load (ty:=58) rfl ?_;refine wl_load (ty:=58) S rfl rfl rfl (by repeat constructor) aggFe (by rfl) ?_)|(refine g_store (ty:=58) rfl ?_;refine wl_store (ty:=58) S rfl rfl rfl rfl (by repeat(first|exact foc_hd|apply foc_tl)) aggFe rfl (by rfl) (w4_one _ _ _ _) ?_;clear S;intro W S))
    refine(Abs_c (iNum*rtR U V%pr) (ok_mod _) _).mono ?_
    rintro e W1 ⟨rfl,hb⟩
    have S:=S.call hb
    clear hb
    go_wp2_with ((refine g_store (ty:=58) rfl ?_;refine wl_store (ty:=58) S rfl rfl rfl rfl (by repeat(first|exact foc_hd|apply foc_tl)) aggFe rfl (by rfl) (w4_one _ _ _ _) ?_;clear S;intro W S))
    refine ret_tuple (v:= .bool true) S (by rfl) (by rfl) (by repeat constructor) aggFe (by simp only[feC_size]) (by rfl) (by rfl) ?_
    refine⟨?_,S.below⟩
    rw[Hr.out,Hk.out]
  · have e1 : decide (rtGot U V % pr = -U % pr % pr) = false := by simpa [rtTurned] using h1
    have He2:Hid (∀ w,Calls Tryz.prog 63 #[.agg (feC (rtGot U V)),.agg (feC (iNum*(-U%pr)%pr))] w fun e w'=>e= .returned (.bool true)∧Below w.heap.size w w'):=by
      have e2:decide (rtGot U V%pr=iNum*(-U%pr)%pr%pr)=true:=by simpa[rtLast] using h2
      intro w
      have:=Same_c (rtGot U V) (iNum*(-U%pr)%pr) (ok_rtGot _ _) (ok_mod _) w
      rw[e2] at this
      exact this
    have Hk:=hide hk
    have Hr:=hide hr
    clear hk hr h1 h2
    refine(Same_c (rtGot U V) (-U%pr) (ok_rtGot _ _) (ok_mod _) _).mono ?_
    rintro e W1 ⟨he,hb⟩
    rw[e1] at he
    subst he
    clear e1
    have S:=S.call hb
    clear hb
    go_wp2_with ((refine g_load (ty:=58) rfl ?_;refine wl_load (ty:=58) S rfl rfl rfl (by repeat constructor) aggFe (by rfl) ?_))
    refine(Same_c (rtGot U V) U (ok_rtGot _ _) hU _).mono ?_
    rintro e W1 ⟨rfl,hb⟩
    have S:=S.call hb
    clear hb
    go_wp2_with (first|(refine wl_box S rfl rfl rfl ?_;clear S;intro b W S)|(refine wl_new (ty:=58) S rfl rfl zeroFe ?_;clear S;intro b W S)|(refine g_load (ty:=58) rfl ?_;refine wl_load (ty:=58) S rfl rfl rfl (by repeat constructor) aggFe (by rfl) ?_)|(refine g_store (ty:=58) rfl ?_;refine wl_store (ty:=58) S rfl rfl rfl rfl (by repeat(first|exact foc_hd|apply foc_tl)) aggFe rfl (by rfl) (w4_one _ _ _ _) ?_;clear S;intro W S)|(refine g_load (ty:=24) rfl ?_;refine wl_loadE (ty:=24) S rfl rfl rfl (by repeat constructor) (by rfl) one64 ?_)|(refine g_store (ty:=24) rfl ?_;refine wl_storeE (ty:=24) S rfl rfl rfl rfl (by rfl) (by repeat(first|exact foc_hd|apply foc_tl)) one64 (by simp) rfl ?_;clear S;intro W S;simp only[Act.eval,zQ] at S))
    refine Calm.region0 S 8 (by kernel_rfl) (by kernel_rfl) (fun S=> ?_)
    repeat(first|(refine wn_move rfl (by rfl) (Or.inl rfl) ?_;simp only[Act.put,Act.eval,zQ])|(refine Calm.gn_load (ty:=58) rfl ?_;refine wn_load (ty:=58) S rfl (by rfl) rfl rfl (by repeat constructor) aggFe (by rfl) ?_;simp only[Act.put,Act.eval,zQ])|(apply wn_call (f:=66) rfl (by rfl) rfl;(intro w;go_simp;rfl);(intro w;exact I_c w);simp only[Act.put,Act.eval,zQ])|(apply wn_call (f:=56) rfl (by rfl) rfl;(intro w;go_simp;rfl);(intro w;exact Mul_c _ _ ok_i (ok_mod _) w);simp only[Act.put,Act.eval,zQ])|(apply wn_call (f:=63) rfl (by rfl) rfl;(intro w;go_simp;rfl);(intro w;exact He2.out w);simp only[Act.put,Act.eval,zQ])|(apply wn_val rfl (by rfl);(intro w;go_simp;rfl);simp only[Act.put,Act.eval,zQ]))
    (refine wn_nil ?_;clear S;intro W S;simp only[Act.put,List.setIfInBounds_toArray,List.set_cons_zero,List.set_cons_succ,List.drop_succ_cons,List.drop_zero,List.drop_nil])
    go_wp2_with (first|(refine wl_box S rfl rfl rfl ?_;clear S;intro b W S)|(refine wl_new (ty:=58) S rfl rfl zeroFe ?_;clear S;intro b W S)|(refine g_load (ty:=58) rfl ?_;refine wl_load (ty:=58) S rfl rfl rfl (by repeat constructor) aggFe (by rfl) ?_)|(refine g_store (ty:=58) rfl ?_;refine wl_store (ty:=58) S rfl rfl rfl rfl (by repeat(first|exact foc_hd|apply foc_tl)) aggFe rfl (by rfl) (w4_one _ _ _ _) ?_;clear S;intro W S)|(refine g_load (ty:=24) rfl ?_;refine wl_loadE (ty:=24) S rfl rfl rfl (by repeat constructor) (by rfl) one64 ?_)|(refine g_store (ty:=24) rfl ?_;refine wl_storeE (ty:=24) S rfl rfl rfl rfl (by rfl) (by repeat(first|exact foc_hd|apply foc_tl)) one64 (by simp) rfl ?_;clear S;intro W S;simp only[Act.eval,zQ] at S))
    refine Calm.region0 S 3 (by kernel_rfl) (by kernel_rfl) (fun S=> ?_)
    repeat(first|(refine Calm.gn_load (ty:=58) rfl ?_;refine wn_load (ty:=58) S rfl (by rfl) rfl rfl (by repeat constructor) aggFe (by rfl) ?_;simp only[Act.put,Act.eval,zQ])|(apply wn_call (f:=66) rfl (by rfl) rfl;(intro w;go_simp;rfl);(intro w;exact I_c w);simp only[Act.put,Act.eval,zQ])|(apply wn_call (f:=56) rfl (by rfl) rfl;(intro w;go_simp;rfl);(intro w;exact Mul_c _ _ ok_i (ok_rtR _ _) w);simp only[Act.put,Act.eval,zQ]))
    (refine wn_nil ?_;clear S;intro W S;simp only[Act.put,List.setIfInBounds_toArray,List.set_cons_zero,List.set_cons_succ,List.drop_succ_cons,List.drop_zero,List.drop_nil])
    go_wp2_with (first|(refine g_load (ty:=58) rfl ?_;refine wl_load (ty:=58) S rfl rfl rfl (by repeat constructor) aggFe (by rfl) ?_)|(refine g_store (ty:=58) rfl ?_;refine wl_store (ty:=58) S rfl rfl rfl rfl (by repeat(first|exact foc_hd|apply foc_tl)) aggFe rfl (by rfl) (w4_one _ _ _ _) ?_;clear S;intro W S))
    refine(Abs_c (iNum*rtR U V%pr) (ok_mod _) _).mono ?_
    rintro e W1 ⟨rfl,hb⟩
    have S:=S.call hb
    clear hb
    go_wp2_with ((refine g_store (ty:=58) rfl ?_;refine wl_store (ty:=58) S rfl rfl rfl rfl (by repeat(first|exact foc_hd|apply foc_tl)) aggFe rfl (by rfl) (w4_one _ _ _ _) ?_;clear S;intro W S))
    refine ret_tuple (v:= .bool (decide (rtGot U V%pr=U%pr))) S (by rfl) (by rfl) (by repeat constructor) aggFe (by simp only[feC_size]) (by rfl) (by rfl) ?_
    refine⟨?_,S.below⟩
    rw[Hr.out,Hk.out]
  · have e1 : decide (rtGot U V % pr = -U % pr % pr) = false := by simpa [rtTurned] using h1
    have He2:Hid (∀ w,Calls Tryz.prog 63 #[.agg (feC (rtGot U V)),.agg (feC (iNum*(-U%pr)%pr))] w fun e w'=>e= .returned (.bool false)∧Below w.heap.size w w'):=by
      have e2:decide (rtGot U V%pr=iNum*(-U%pr)%pr%pr)=false:=by simpa[rtLast] using h2
      intro w
      have:=Same_c (rtGot U V) (iNum*(-U%pr)%pr) (ok_rtGot _ _) (ok_mod _) w
      rw[e2] at this
      exact this
    have Hk:=hide hk
    have Hr:=hide hr
    clear hk hr h1 h2
    refine(Same_c (rtGot U V) (-U%pr) (ok_rtGot _ _) (ok_mod _) _).mono ?_
    rintro e W1 ⟨he,hb⟩
    rw[e1] at he
    subst he
    clear e1
    have S:=S.call hb
    clear hb
    go_wp2_with ((refine g_load (ty:=58) rfl ?_;refine wl_load (ty:=58) S rfl rfl rfl (by repeat constructor) aggFe (by rfl) ?_))
    refine(Same_c (rtGot U V) U (ok_rtGot _ _) hU _).mono ?_
    rintro e W1 ⟨rfl,hb⟩
    have S:=S.call hb
    clear hb
    go_wp2_with (first|(refine wl_box S rfl rfl rfl ?_;clear S;intro b W S)|(refine wl_new (ty:=58) S rfl rfl zeroFe ?_;clear S;intro b W S)|(refine g_load (ty:=58) rfl ?_;refine wl_load (ty:=58) S rfl rfl rfl (by repeat constructor) aggFe (by rfl) ?_)|(refine g_store (ty:=58) rfl ?_;refine wl_store (ty:=58) S rfl rfl rfl rfl (by repeat(first|exact foc_hd|apply foc_tl)) aggFe rfl (by rfl) (w4_one _ _ _ _) ?_;clear S;intro W S)|(refine g_load (ty:=24) rfl ?_;refine wl_loadE (ty:=24) S rfl rfl rfl (by repeat constructor) (by rfl) one64 ?_)|(refine g_store (ty:=24) rfl ?_;refine wl_storeE (ty:=24) S rfl rfl rfl rfl (by rfl) (by repeat(first|exact foc_hd|apply foc_tl)) one64 (by simp) rfl ?_;clear S;intro W S;simp only[Act.eval,zQ] at S))
    refine Calm.region0 S 8 (by kernel_rfl) (by kernel_rfl) (fun S=> ?_)
    repeat(first|(refine wn_move rfl (by rfl) (Or.inl rfl) ?_;simp only[Act.put,Act.eval,zQ])|(refine Calm.gn_load (ty:=58) rfl ?_;refine wn_load (ty:=58) S rfl (by rfl) rfl rfl (by repeat constructor) aggFe (by rfl) ?_;simp only[Act.put,Act.eval,zQ])|(apply wn_call (f:=66) rfl (by rfl) rfl;(intro w;go_simp;rfl);(intro w;exact I_c w);simp only[Act.put,Act.eval,zQ])|(apply wn_call (f:=56) rfl (by rfl) rfl;(intro w;go_simp;rfl);(intro w;exact Mul_c _ _ ok_i (ok_mod _) w);simp only[Act.put,Act.eval,zQ])|(apply wn_call (f:=63) rfl (by rfl) rfl;(intro w;go_simp;rfl);(intro w;exact He2.out w);simp only[Act.put,Act.eval,zQ])|(apply wn_val rfl (by rfl);(intro w;go_simp;rfl);simp only[Act.put,Act.eval,zQ]))
    (refine wn_nil ?_;clear S;intro W S;simp only[Act.put,List.setIfInBounds_toArray,List.set_cons_zero,List.set_cons_succ,List.drop_succ_cons,List.drop_zero,List.drop_nil])
    go_wp2_with ((refine g_load (ty:=58) rfl ?_;refine wl_load (ty:=58) S rfl rfl rfl (by repeat constructor) aggFe (by rfl) ?_))
    refine(Abs_c (rtR U V) (ok_rtR _ _) _).mono ?_
    rintro e W1 ⟨rfl,hb⟩
    have S:=S.call hb
    clear hb
    go_wp2_with ((refine g_store (ty:=58) rfl ?_;refine wl_store (ty:=58) S rfl rfl rfl rfl (by repeat(first|exact foc_hd|apply foc_tl)) aggFe rfl (by rfl) (w4_one _ _ _ _) ?_;clear S;intro W S))
    refine ret_tuple (v:= .bool (decide (rtGot U V%pr=U%pr))) S (by rfl) (by rfl) (by repeat constructor) aggFe (by simp only[feC_size]) (by rfl) (by rfl) ?_
    refine⟨?_,S.below⟩
    rw[Hr.out,Hk.out]
end Go.Proofs.YtdebkddhpogkgaaGreat
