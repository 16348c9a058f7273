import Derived.Test.YtpmkojinhebihaaDoorZSSardShI
set_option linter.unusedSimpArgs false
set_option linter.unusedVariables false
/-! The sum of a text: loops. -/
namespace Go.Proofs.YtpmkojinhebihaaDoor
open Go.RowKit Go.Ev
theorem dL_get {k:IntKind} {S:List Int}:dL (wA k 8 S)= [S.getD 0 0,S.getD 1 0,S.getD 2 0,S.getD 3 0,S.getD 4 0,S.getD 5 0,S.getD 6 0,S.getD 7 0]:=rfl
theorem dL_eq {k:IntKind} {S:List Int} (h:S.length=8):dL (wA k 8 S)=S:=by
  rw[dL_get]
  match S,h with
  | [a,b,c,d,e,f,g,i],_=>rfl
theorem wA_bytes {N:Nat} {L:List Int} (h:∀ i,i<N→0≤L.getD i 0∧L.getD i 0<256):bytesAt (wA .u8 N L) 0 N:=fun j hj=>by
  rw[Nat.zero_add]
  have e:iat (wA .u8 N L) j=L.getD j 0:=by unfold iat;rw[wA_at hj]
  rw[e]
  exact⟨wA_at hj,h j hj⟩
def Bt (x:Int):Prop:=0≤x∧x<256
theorem bt_wrap (n:Int):Bt (IntKind.u8.wrap n):=by unfold Bt;rw[IntKind.wrap_u8];omega
theorem bt_lset {N p:Nat} {L:List Int} {x:Int} (h:∀ i,i<N→Bt (L.getD i 0)) (hx:Bt x):∀ i,i<N→Bt ((lset N L p x).getD i 0):=fun i hi=>by
  rw[lset_at hi]
  split
  · exact hx
  · exact h i hi
theorem bt_pad {N:Nat} {L:List Int} {c:Int} (h:∀ i,i<N→Bt (L.getD i 0)):∀ i,i<N→Bt ((pad8 N L c).getD i 0):=
  bt_lset (bt_lset (bt_lset (bt_lset (bt_lset (bt_lset (bt_lset (bt_lset h (bt_wrap _)) (bt_wrap _)) (bt_wrap _)) (bt_wrap _)) (bt_wrap _)) (bt_wrap _)) (bt_wrap _)) (bt_wrap _)
theorem bt_tl {a:Array Value} {p r:Nat} (hb:bytesAt a p r) (i:Nat):Bt ((bL a p r ++ [128]).getD i 0):=by
  rw[List.getD_eq_getElem?_getD,List.getElem?_append,bL_len]
  split
  · rename_i h
    have:=bL_at (a:=a) (p:=p) (r:=r) (i:=i)
    rw[List.getD_eq_getElem?_getD,if_pos h] at this
    rw[this]
    exact⟨(hb i h).2.1,(hb i h).2.2⟩
  · by_cases h : i - r = 0
    · rw[h];exact⟨by decide,by decide⟩
    · rw[List.getElem?_eq_none (by simp;omega)];exact⟨by decide,by decide⟩
def fS2 (S:List Int) (a:Array Value) (o:Nat):Nat→List Int
  |0=>S
  |j+1=>bhd2 (fS2 S a o j) (fun i=>wd2 a (o+64*j+4*i))
theorem fS2_len {S:List Int} (hS:S.length=8) (a:Array Value) (o:Nat):∀ j,(fS2 S a o j).length=8
  |0=>hS
  |j+1=>rfl
def suM2 (a:Array Value) (g0 g1 t:Tq) (S:List Int):List Mb:= [(wA .u32 64 kL2,g0),(wA .u64 80 kL5,g1),(a,t),(wA .u8 32 [],(25,(0,0))),(wA .u32 8 S,(40,(0,0)))]
theorem su2_l1 (a:Array Value) (g0 g1 t:Tq) (o l cp:Nat) (hb:bytesAt a o l) (hc:l≤cp) (S:List Int) (hS:S.length=8) (j0:Nat→Value) {c0:Prop} {ch0:List (Option Value)}:Runs Tryd.prog (.loop (cAt [1,1,0,1,0,0] (bdy Tryd.f9))) ⟨su2T_a a g0 g1 t o l cp [] o l cp j0,suM2 a g0 g1 t S,c0,ch0⟩ (fun e s=>e= .exit 0∧∃ p m q j c ch,s=⟨su2T_a a g0 g1 t o l cp [] p m q j,suM2 a g0 g1 t (fS2 S a o (l / 64)),c,ch⟩) 2000003:=by
  refine runs_loop (fun M s=>∃ k p q j c ch,64*k≤l∧M=l / 64 - k∧q+64*k=cp∧(q=0∨p=o+64*k)∧s=⟨su2T_a a g0 g1 t o l cp [] p (l - 64*k) q j,suM2 a g0 g1 t (fS2 S a o k),c,ch⟩) (l / 64) ⟨0,o,cp,j0,c0,ch0,by omega,rfl,rfl,.inr rfl,rfl⟩ ?_
  rintro M s ⟨k,p,q,j,c,ch,hk,rfl,hq,hp,rfl⟩
  have hlen:=fS2_len hS a o k
  by_cases h:64≤l - 64*k
  · have hq0 : q ≠ 0 := by omega
    have hp':p=o+64*k:=by rcases hp with h|h;exact absurd h hq0;exact h
    have ho:(if q=0 then p else p+0*1)=o+64*k:=by rw[if_neg hq0,hp'];omega
    have hdl:=dL_eq (k:= .u32) hlen
    refine(su2T_r a g0 g1 t o l cp (fS2 S a o k) p (l - 64*k) q j ⟨⟨trivial,by decide⟩,by decide,by omega⟩ ⟨rfl,rfl,by rw[hdl],by rw[ho];exact hb.sub (by omega),by decide,by omega⟩ (wA_one _ _ _) ⟨⟨by decide,trivial⟩,h,by omega⟩ (decide_eq_true (by omega))).mono ?_
    rintro e s ⟨rfl,c,ch,hs⟩
    rw[hdl,ho] at hs
    refine .inl ⟨rfl,l / 64 - (k+1),by omega,k+1,(if q=64 then p else p+64*1),q - 64,fun q=>s.tm.getD q undef,c,ch,by omega,rfl,by omega,?_,?_⟩
    · by_cases e : q = 64
      · left;omega
      · right;rw[if_neg e,hp'];omega
    · rw [show l - 64 * (k + 1) = l - 64 * k - 64 by omega]
      subst hs
      rfl
  · have : k = l / 64 := by omega
    subst this
    refine(su2X_r a g0 g1 t o l cp (fS2 S a o (l / 64)) p (l - 64*(l / 64)) q j (decide_eq_false (by omega))).mono ?_
    rintro e s ⟨rfl,c,ch,hs⟩
    refine .inr ⟨by simp,rfl,p,l - 64*(l / 64),q,fun q=>s.tm.getD q undef,c,ch,?_⟩
    subst hs
    rfl
theorem su2_l2 (a C:Array Value) (g0 g1 t:Tq) (z:Nat) (hb:bytesAt C 0 (64*z)) (S:List Int) (hS:S.length=8) (j0:Nat→Value) {c0:Prop} {ch0:List (Option Value)}:Runs Tryd.prog (.loop (cAt [1,1,1,0,1,0,0] (bdy Tryd.f9))) ⟨su2U_a a C g0 g1 t [] 0 (64*z) (64*z) j0,suM2 a g0 g1 t S ++ [(C,(5,(0,0)))],c0,ch0⟩ (fun e s=>e= .exit 2∧∃ p m q j c ch,s=⟨su2U_a a C g0 g1 t [] p m q j,suM2 a g0 g1 t (fS2 S C 0 z) ++ [(C,(5,(0,0)))],c,ch⟩) 2000003:=by
  refine runs_loop (fun M s=>∃ k p q j c ch,k≤z∧M=z - k∧q+64*k=64*z∧(q=0∨p=0+64*k)∧s=⟨su2U_a a C g0 g1 t [] p (64*z - 64*k) q j,suM2 a g0 g1 t (fS2 S C 0 k) ++ [(C,(5,(0,0)))],c,ch⟩) z ⟨0,0,64*z,j0,c0,ch0,by omega,rfl,rfl,.inr rfl,rfl⟩ ?_
  rintro M s ⟨k,p,q,j,c,ch,hk,rfl,hq,hp,rfl⟩
  have hlen:=fS2_len hS C 0 k
  by_cases h:k<z
  · have hq0 : q ≠ 0 := by omega
    have hp':p=0+64*k:=by rcases hp with h|h;exact absurd h hq0;exact h
    have ho:(if q=0 then p else p+0*1)=0+64*k:=by rw[if_neg hq0,hp'];omega
    have hdl:=dL_eq (k:= .u32) hlen
    refine(su2U_r a C g0 g1 t (fS2 S C 0 k) p (64*z - 64*k) q j ⟨⟨trivial,by decide⟩,by decide,by omega⟩ ⟨rfl,rfl,by rw[hdl],by rw[ho];exact hb.sub (by omega),by decide,by omega⟩ (wA_one _ _ _) ⟨⟨by decide,trivial⟩,by omega,by omega⟩ (decide_eq_true (by omega))).mono ?_
    rintro e s ⟨rfl,c,ch,hs⟩
    rw[hdl,ho] at hs
    refine .inl ⟨rfl,z - (k+1),by omega,k+1,(if q=64 then p else p+64*1),q - 64,fun q=>s.tm.getD q undef,c,ch,by omega,rfl,by omega,?_,?_⟩
    · by_cases e : q = 64
      · left;omega
      · right;rw[if_neg e,hp'];omega
    · rw [show 64 * z - 64 * (k + 1) = 64 * z - 64 * k - 64 by omega]
      subst hs
      rfl
  · have : k = z := by omega
    subst this
    refine(su2Y_r a C g0 g1 t (fS2 S C 0 k) p (64*k - 64*k) q j (decide_eq_false (by omega))).mono ?_
    rintro e s ⟨rfl,c,ch,hs⟩
    refine .inr ⟨by simp,rfl,p,64*k - 64*k,q,fun q=>s.tm.getD q undef,c,ch,?_⟩
    subst hs
    rfl
theorem su2_shape:(bdy Tryd.f9)= .seq (cAt [0] (bdy Tryd.f9)) (.seq (cAt [1,0] (bdy Tryd.f9)) (.seq (.seq (cAt [1,1,0,0] (bdy Tryd.f9)) (.block 0 (.loop (cAt [1,1,0,1,0,0] (bdy Tryd.f9))))) (.seq (.seq (cAt [1,1,1,0,0] (bdy Tryd.f9)) (.block 2 (.loop (cAt [1,1,1,0,1,0,0] (bdy Tryd.f9))))) (cAt [1,1,1,1] (bdy Tryd.f9))))):=by kernel_rfl
def sum2 (a:Array Value) (o l:Nat):List Int:=out2 (fS2 (fS2 bg2 a o (l / 64)) (endC2 a o l) 0 (endN2 l / 64))
theorem end2_bytes {a:Array Value} {o l:Nat} (hb:bytesAt a o l):bytesAt (endC2 a o l) 0 (endN2 l):=by
  have hle:=Nat.mod_le l 64
  refine wA_bytes (bt_pad (fun i _=> ?_))
  unfold tl2
  exact bt_tl (hb.sub (by omega)) i
theorem endN2_mul (l:Nat):endN2 l=64*(endN2 l / 64):=by
  unfold endN2
  split<;>rfl
theorem su2_end (a C:Array Value) (g0 g1 t:Tq) (S:List Int) (hS:S.length=8) (p m q:Nat) (j:Nat→Value) {c0:Prop} {ch0:List (Option Value)}:Runs Tryd.prog (cAt [1,1,1,1] (bdy Tryd.f9)) ⟨su2U_a a C g0 g1 t [] p m q j,suM2 a g0 g1 t S ++ [(C,(5,(0,0)))],c0,ch0⟩ (fun e s=>e= .ret∧resS (yty.enm tabS7 [mEnd] 2000003) s Tryd.f9.results.toList=some [.agg (wA .u8 32 (out2 S))]) 2000003:=by
  have hdl:=dL_eq (k:= .u32) hS
  have hs0:su2U_a a C g0 g1 t [] p m q j=su2Z_a a C g0 g1 t S (fun x=>(su2U_a a C g0 g1 t [] p m q j).getD x undef):=rfl
  rw[hs0]
  refine(su2Z_r a C g0 g1 t S _ (by rw[hdl]) (wA_one _ _ _)).mono ?_
  rintro e s ⟨rfl,c,ch,hs⟩
  rw[hdl] at hs
  subst hs
  generalize out2 S=X
  exact⟨rfl,by kernel_rfl⟩
theorem Sum2_c (a:Array Value) (g0 g1 t:Tq) (o l cp:Nat) (hb:bytesAt a o l) (hz:o+l≤a.size) (hc:l≤cp) (hl:l<1152921504606846976):Reads Tryd.prog 9 [(wA .u32 64 kL2,g0),(wA .u64 80 kL5,g1),(a,t)] [.slice (some ⟨2,o,none⟩) l cp] (.agg (wA .u8 32 (sum2 a o l))) 2:=by
  refine reads_runs (fk:=2000003) (yty.enm tabS7 [mEnd] 2000003) Tryd.func9 (c:=(bdy Tryd.f9)) (by kernel_rfl) ⟨len3 _ _ _,by decide⟩ (by kernel_rfl) (K:=fun e s=>e= .ret∧resS (yty.enm tabS7 [mEnd] 2000003) s Tryd.f9.results.toList=some [.agg (wA .u8 32 (sum2 a o l))]) ?_ (fun e s h=>⟨h.1,_,h.2,rfl⟩)
  rw[su2_shape]
  have hbg:bg2.length=8:=rfl
  refine runs_seq (su2A_r a g0 g1 t o l cp) (fun s h=> ?_) (fun e s hne h=>absurd h.1 hne)
  obtain⟨_,c,ch,rfl⟩:=h
  refine runs_seq (su2B_r a g0 g1 t o l cp (wA_one _ _ _)) (fun s h=> ?_) (fun e s hne h=>absurd h.1 hne)
  obtain⟨_,c,ch,rfl⟩:=h
  refine runs_seq (K1:=fun e s=>e= .normal∧∃ p m q j c ch,s=⟨su2T_a a g0 g1 t o l cp [] p m q j,suM2 a g0 g1 t (fS2 bg2 a o (l / 64)),c,ch⟩) ?_ (fun s h=> ?_) (fun e s hne h=>absurd h.1 hne)
  · refine runs_seq (su2C_r a g0 g1 t o l cp) (fun s h => ?_) (fun e s hne h => absurd h.1 hne)
    obtain⟨_,c,ch,hs⟩:=h
    have hs':s=⟨su2T_a a g0 g1 t o l cp [] o l cp (fun x=>s.tm.getD x undef),suM2 a g0 g1 t bg2,c,ch⟩:=by subst hs;rfl
    rw[hs']
    refine runs_block (su2_l1 a g0 g1 t o l cp hb hc bg2 hbg _) ?_
    rintro e s ⟨rfl,h⟩
    exact .inl ⟨rfl,rfl,h⟩
  obtain⟨_,p,m,q,j,c,ch,rfl⟩:=h
  have hS1:=fS2_len hbg a o (l / 64)
  unfold sum2
  generalize fS2 bg2 a o (l / 64)=S1 at hS1 ⊢
  have hbC:=end2_bytes hb
  rw[endN2_mul l] at hbC
  refine runs_seq (K1:=fun e s=>e= .normal∧∃ p m q j c ch,s=⟨su2U_a a (endC2 a o l) g0 g1 t [] p m q j,suM2 a g0 g1 t (fS2 S1 (endC2 a o l) 0 (endN2 l / 64)) ++ [(endC2 a o l,(5,(0,0)))],c,ch⟩) ?_ (fun s h=> ?_) (fun e s hne h=>absurd h.1 hne)
  · have hs0 : su2T_a a g0 g1 t o l cp [] p m q j = su2D_a a g0 g1 t o l cp S1 p m q (fun x => (su2T_a a g0 g1 t o l cp [] p m q j).getD x undef) := rfl
    rw[hs0]
    refine runs_seq (su2D_r a g0 g1 t o l cp S1 p m q _ ⟨hb,hz,hc,hl⟩) (fun s h=> ?_) (fun e s hne h=>absurd h.1 hne)
    obtain⟨_,c,ch,hs⟩:=h
    have hs':s=⟨su2U_a a (endC2 a o l) g0 g1 t [] 0 (endN2 l) (endN2 l) (fun x=>s.tm.getD x undef),suM2 a g0 g1 t S1 ++ [(endC2 a o l,(5,(0,0)))],c,ch⟩:=by subst hs;rfl
    rw[hs']
    generalize endC2 a o l=C at hbC ⊢
    rw[endN2_mul l]
    generalize endN2 l / 64=z at hbC ⊢
    rw[Nat.mul_div_cancel_left z (show 0<64 by decide)]
    refine runs_block (su2_l2 a C g0 g1 t z hbC S1 hS1 _) ?_
    rintro e s ⟨rfl,h⟩
    exact .inl ⟨rfl,rfl,h⟩
  obtain⟨_,p,m,q,j,c,ch,rfl⟩:=h
  exact su2_end a _ g0 g1 t _ (fS2_len hS1 _ _ _) p m q j
def sumN2:List Int:=out2 (bhd2 bg2 (fun i=>wd2 (wA .u8 64 nilL2) (0+4*i)))
theorem SumN2_c (g0 g1:Tq):Reads Tryd.prog 9 [(wA .u32 64 kL2,g0),(wA .u64 80 kL5,g1)] [.slice none 0 0] (.agg (wA .u8 32 sumN2)) 2:=by
  refine reads_runs (fk:=2000002) (yty.enm tabS7 [mEnd] 2000002) Tryd.func9 (c:=(bdy Tryd.f9)) (by kernel_rfl) ⟨len2 _ _,by decide⟩ (by kernel_rfl) (K:=fun e s=>e= .ret∧resS (yty.enm tabS7 [mEnd] 2000002) s Tryd.f9.results.toList=some [.agg (wA .u8 32 sumN2)]) ?_ (fun e s h=>⟨h.1,_,h.2,rfl⟩)
  have e1:dL (wA .u32 8 bg2)=bg2:=dL_eq rfl
  have e2:dL (wA .u32 8 (bhd2 bg2 (fun i=>wd2 (wA .u8 64 nilL2) (0+4*i))))=bhd2 bg2 (fun i=>wd2 (wA .u8 64 nilL2) (0+4*i)):=dL_eq rfl
  refine(su2N_r g0 g1 (wA_one _ _ _) ⟨rfl,rfl,by rw[e1],wA_bytes (bt_pad (fun i _=> ?_)),by decide,by decide⟩ (wA_one _ _ _) (by rw[e1,e2]) (wA_one _ _ _)).mono ?_
  · have := bt_tl (a := #[]) (p := 0) (r := 0) (fun j h => by omega) i
    exact this
  · rintro e s ⟨rfl, c, ch, hs⟩
    rw[e1,e2] at hs
    subst hs
    unfold sumN2
    generalize bhd2 bg2 (fun i=>wd2 (wA .u8 64 nilL2) (0+4*i))=S
    generalize out2 S=X
    exact⟨rfl,by kernel_rfl⟩
def fS5 (S:List Int) (a:Array Value) (o:Nat):Nat→List Int
  |0=>S
  |j+1=>bhd5 (fS5 S a o j) (fun i=>wd5 a (o+128*j+8*i))
theorem fS5_len {S:List Int} (hS:S.length=8) (a:Array Value) (o:Nat):∀ j,(fS5 S a o j).length=8
  |0=>hS
  |j+1=>rfl
def suM5 (a:Array Value) (g0 g1 t:Tq) (S:List Int):List Mb:= [(wA .u32 64 kL2,g0),(wA .u64 80 kL5,g1),(a,t),(wA .u8 64 [],(28,(0,0))),(wA .u64 8 S,(51,(0,0)))]
theorem su5_l1 (a:Array Value) (g0 g1 t:Tq) (o l cp:Nat) (hb:bytesAt a o l) (hc:l≤cp) (S:List Int) (hS:S.length=8) (j0:Nat→Value) {c0:Prop} {ch0:List (Option Value)}:Runs Tryd.prog (.loop (cAt [1,1,0,1,0,0] (bdy Tryd.f11))) ⟨su5T_a a g0 g1 t o l cp [] o l cp j0,suM5 a g0 g1 t S,c0,ch0⟩ (fun e s=>e= .exit 0∧∃ p m q j c ch,s=⟨su5T_a a g0 g1 t o l cp [] p m q j,suM5 a g0 g1 t (fS5 S a o (l / 128)),c,ch⟩) 2000003:=by
  refine runs_loop (fun M s=>∃ k p q j c ch,128*k≤l∧M=l / 128 - k∧q+128*k=cp∧(q=0∨p=o+128*k)∧s=⟨su5T_a a g0 g1 t o l cp [] p (l - 128*k) q j,suM5 a g0 g1 t (fS5 S a o k),c,ch⟩) (l / 128) ⟨0,o,cp,j0,c0,ch0,by omega,rfl,rfl,.inr rfl,rfl⟩ ?_
  rintro M s ⟨k,p,q,j,c,ch,hk,rfl,hq,hp,rfl⟩
  have hlen:=fS5_len hS a o k
  by_cases h:128≤l - 128*k
  · have hq0 : q ≠ 0 := by omega
    have hp':p=o+128*k:=by rcases hp with h|h;exact absurd h hq0;exact h
    have ho:(if q=0 then p else p+0*1)=o+128*k:=by rw[if_neg hq0,hp'];omega
    have hdl:=dL_eq (k:= .u64) hlen
    refine(su5T_r a g0 g1 t o l cp (fS5 S a o k) p (l - 128*k) q j ⟨⟨trivial,by decide⟩,by decide,by omega⟩ ⟨rfl,rfl,by rw[hdl],by rw[ho];exact hb.sub (by omega),by decide,by omega⟩ (wA_one _ _ _) ⟨⟨by decide,trivial⟩,h,by omega⟩ (decide_eq_true (by omega))).mono ?_
    rintro e s ⟨rfl,c,ch,hs⟩
    rw[hdl,ho] at hs
    refine .inl ⟨rfl,l / 128 - (k+1),by omega,k+1,(if q=128 then p else p+128*1),q - 128,fun q=>s.tm.getD q undef,c,ch,by omega,rfl,by omega,?_,?_⟩
    · by_cases e : q = 128
      · left;omega
      · right;rw[if_neg e,hp'];omega
    · rw [show l - 128 * (k + 1) = l - 128 * k - 128 by omega]
      subst hs
      rfl
  · have : k = l / 128 := by omega
    subst this
    refine(su5X_r a g0 g1 t o l cp (fS5 S a o (l / 128)) p (l - 128*(l / 128)) q j (decide_eq_false (by omega))).mono ?_
    rintro e s ⟨rfl,c,ch,hs⟩
    refine .inr ⟨by simp,rfl,p,l - 128*(l / 128),q,fun q=>s.tm.getD q undef,c,ch,?_⟩
    subst hs
    rfl
theorem su5_l2 (a C:Array Value) (g0 g1 t:Tq) (z:Nat) (hb:bytesAt C 0 (128*z)) (S:List Int) (hS:S.length=8) (j0:Nat→Value) {c0:Prop} {ch0:List (Option Value)}:Runs Tryd.prog (.loop (cAt [1,1,1,0,1,0,0] (bdy Tryd.f11))) ⟨su5U_a a C g0 g1 t [] 0 (128*z) (128*z) j0,suM5 a g0 g1 t S ++ [(C,(5,(0,0)))],c0,ch0⟩ (fun e s=>e= .exit 2∧∃ p m q j c ch,s=⟨su5U_a a C g0 g1 t [] p m q j,suM5 a g0 g1 t (fS5 S C 0 z) ++ [(C,(5,(0,0)))],c,ch⟩) 2000003:=by
  refine runs_loop (fun M s=>∃ k p q j c ch,k≤z∧M=z - k∧q+128*k=128*z∧(q=0∨p=0+128*k)∧s=⟨su5U_a a C g0 g1 t [] p (128*z - 128*k) q j,suM5 a g0 g1 t (fS5 S C 0 k) ++ [(C,(5,(0,0)))],c,ch⟩) z ⟨0,0,128*z,j0,c0,ch0,by omega,rfl,rfl,.inr rfl,rfl⟩ ?_
  rintro M s ⟨k,p,q,j,c,ch,hk,rfl,hq,hp,rfl⟩
  have hlen:=fS5_len hS C 0 k
  by_cases h:k<z
  · have hq0 : q ≠ 0 := by omega
    have hp':p=0+128*k:=by rcases hp with h|h;exact absurd h hq0;exact h
    have ho:(if q=0 then p else p+0*1)=0+128*k:=by rw[if_neg hq0,hp'];omega
    have hdl:=dL_eq (k:= .u64) hlen
    refine(su5U_r a C g0 g1 t (fS5 S C 0 k) p (128*z - 128*k) q j ⟨⟨trivial,by decide⟩,by decide,by omega⟩ ⟨rfl,rfl,by rw[hdl],by rw[ho];exact hb.sub (by omega),by decide,by omega⟩ (wA_one _ _ _) ⟨⟨by decide,trivial⟩,by omega,by omega⟩ (decide_eq_true (by omega))).mono ?_
    rintro e s ⟨rfl,c,ch,hs⟩
    rw[hdl,ho] at hs
    refine .inl ⟨rfl,z - (k+1),by omega,k+1,(if q=128 then p else p+128*1),q - 128,fun q=>s.tm.getD q undef,c,ch,by omega,rfl,by omega,?_,?_⟩
    · by_cases e : q = 128
      · left;omega
      · right;rw[if_neg e,hp'];omega
    · rw [show 128 * z - 128 * (k + 1) = 128 * z - 128 * k - 128 by omega]
      subst hs
      rfl
  · have : k = z := by omega
    subst this
    refine(su5Y_r a C g0 g1 t (fS5 S C 0 k) p (128*k - 128*k) q j (decide_eq_false (by omega))).mono ?_
    rintro e s ⟨rfl,c,ch,hs⟩
    refine .inr ⟨by simp,rfl,p,128*k - 128*k,q,fun q=>s.tm.getD q undef,c,ch,?_⟩
    subst hs
    rfl
theorem su5_shape:(bdy Tryd.f11)= .seq (cAt [0] (bdy Tryd.f11)) (.seq (cAt [1,0] (bdy Tryd.f11)) (.seq (.seq (cAt [1,1,0,0] (bdy Tryd.f11)) (.block 0 (.loop (cAt [1,1,0,1,0,0] (bdy Tryd.f11))))) (.seq (.seq (cAt [1,1,1,0,0] (bdy Tryd.f11)) (.block 2 (.loop (cAt [1,1,1,0,1,0,0] (bdy Tryd.f11))))) (cAt [1,1,1,1] (bdy Tryd.f11))))):=by kernel_rfl
def sum5 (a:Array Value) (o l:Nat):List Int:=out5 (fS5 (fS5 bg5 a o (l / 128)) (endC5 a o l) 0 (endN5 l / 128))
theorem end5_bytes {a:Array Value} {o l:Nat} (hb:bytesAt a o l):bytesAt (endC5 a o l) 0 (endN5 l):=by
  have hle:=Nat.mod_le l 128
  refine wA_bytes (bt_pad (fun i _=> ?_))
  unfold tl5
  exact bt_tl (hb.sub (by omega)) i
theorem endN5_mul (l:Nat):endN5 l=128*(endN5 l / 128):=by
  unfold endN5
  split<;>rfl
theorem su5_end (a C:Array Value) (g0 g1 t:Tq) (S:List Int) (hS:S.length=8) (p m q:Nat) (j:Nat→Value) {c0:Prop} {ch0:List (Option Value)}:Runs Tryd.prog (cAt [1,1,1,1] (bdy Tryd.f11)) ⟨su5U_a a C g0 g1 t [] p m q j,suM5 a g0 g1 t S ++ [(C,(5,(0,0)))],c0,ch0⟩ (fun e s=>e= .ret∧resS (yty.enm tabS7 [mEnd] 2000003) s Tryd.f11.results.toList=some [.agg (wA .u8 64 (out5 S))]) 2000003:=by
  have hdl:=dL_eq (k:= .u64) hS
  have hs0:su5U_a a C g0 g1 t [] p m q j=su5Z_a a C g0 g1 t S (fun x=>(su5U_a a C g0 g1 t [] p m q j).getD x undef):=rfl
  rw[hs0]
  refine(su5Z_r a C g0 g1 t S _ (by rw[hdl]) (wA_one _ _ _)).mono ?_
  rintro e s ⟨rfl,c,ch,hs⟩
  rw[hdl] at hs
  subst hs
  generalize out5 S=X
  exact⟨rfl,by kernel_rfl⟩
theorem Sum5_c (a:Array Value) (g0 g1 t:Tq) (o l cp:Nat) (hb:bytesAt a o l) (hz:o+l≤a.size) (hc:l≤cp) (hl:l<1152921504606846976):Reads Tryd.prog 11 [(wA .u32 64 kL2,g0),(wA .u64 80 kL5,g1),(a,t)] [.slice (some ⟨2,o,none⟩) l cp] (.agg (wA .u8 64 (sum5 a o l))) 2:=by
  refine reads_runs (fk:=2000003) (yty.enm tabS7 [mEnd] 2000003) Tryd.func11 (c:=(bdy Tryd.f11)) (by kernel_rfl) ⟨len3 _ _ _,by decide⟩ (by kernel_rfl) (K:=fun e s=>e= .ret∧resS (yty.enm tabS7 [mEnd] 2000003) s Tryd.f11.results.toList=some [.agg (wA .u8 64 (sum5 a o l))]) ?_ (fun e s h=>⟨h.1,_,h.2,rfl⟩)
  rw[su5_shape]
  have hbg:bg5.length=8:=rfl
  refine runs_seq (su5A_r a g0 g1 t o l cp) (fun s h=> ?_) (fun e s hne h=>absurd h.1 hne)
  obtain⟨_,c,ch,rfl⟩:=h
  refine runs_seq (su5B_r a g0 g1 t o l cp (wA_one _ _ _)) (fun s h=> ?_) (fun e s hne h=>absurd h.1 hne)
  obtain⟨_,c,ch,rfl⟩:=h
  refine runs_seq (K1:=fun e s=>e= .normal∧∃ p m q j c ch,s=⟨su5T_a a g0 g1 t o l cp [] p m q j,suM5 a g0 g1 t (fS5 bg5 a o (l / 128)),c,ch⟩) ?_ (fun s h=> ?_) (fun e s hne h=>absurd h.1 hne)
  · refine runs_seq (su5C_r a g0 g1 t o l cp) (fun s h => ?_) (fun e s hne h => absurd h.1 hne)
    obtain⟨_,c,ch,hs⟩:=h
    have hs':s=⟨su5T_a a g0 g1 t o l cp [] o l cp (fun x=>s.tm.getD x undef),suM5 a g0 g1 t bg5,c,ch⟩:=by subst hs;rfl
    rw[hs']
    refine runs_block (su5_l1 a g0 g1 t o l cp hb hc bg5 hbg _) ?_
    rintro e s ⟨rfl,h⟩
    exact .inl ⟨rfl,rfl,h⟩
  obtain⟨_,p,m,q,j,c,ch,rfl⟩:=h
  have hS1:=fS5_len hbg a o (l / 128)
  unfold sum5
  generalize fS5 bg5 a o (l / 128)=S1 at hS1 ⊢
  have hbC:=end5_bytes hb
  rw[endN5_mul l] at hbC
  refine runs_seq (K1:=fun e s=>e= .normal∧∃ p m q j c ch,s=⟨su5U_a a (endC5 a o l) g0 g1 t [] p m q j,suM5 a g0 g1 t (fS5 S1 (endC5 a o l) 0 (endN5 l / 128)) ++ [(endC5 a o l,(5,(0,0)))],c,ch⟩) ?_ (fun s h=> ?_) (fun e s hne h=>absurd h.1 hne)
  · have hs0 : su5T_a a g0 g1 t o l cp [] p m q j = su5D_a a g0 g1 t o l cp S1 p m q (fun x => (su5T_a a g0 g1 t o l cp [] p m q j).getD x undef) := rfl
    rw[hs0]
    refine runs_seq (su5D_r a g0 g1 t o l cp S1 p m q _ ⟨hb,hz,hc,hl⟩) (fun s h=> ?_) (fun e s hne h=>absurd h.1 hne)
    obtain⟨_,c,ch,hs⟩:=h
    have hs':s=⟨su5U_a a (endC5 a o l) g0 g1 t [] 0 (endN5 l) (endN5 l) (fun x=>s.tm.getD x undef),suM5 a g0 g1 t S1 ++ [(endC5 a o l,(5,(0,0)))],c,ch⟩:=by subst hs;rfl
    rw[hs']
    generalize endC5 a o l=C at hbC ⊢
    rw[endN5_mul l]
    generalize endN5 l / 128=z at hbC ⊢
    rw[Nat.mul_div_cancel_left z (show 0<128 by decide)]
    refine runs_block (su5_l2 a C g0 g1 t z hbC S1 hS1 _) ?_
    rintro e s ⟨rfl,h⟩
    exact .inl ⟨rfl,rfl,h⟩
  obtain⟨_,p,m,q,j,c,ch,rfl⟩:=h
  exact su5_end a _ g0 g1 t _ (fS5_len hS1 _ _ _) p m q j
def sumN5:List Int:=out5 (bhd5 bg5 (fun i=>wd5 (wA .u8 128 nilL5) (0+8*i)))
theorem SumN5_c (g0 g1:Tq):Reads Tryd.prog 11 [(wA .u32 64 kL2,g0),(wA .u64 80 kL5,g1)] [.slice none 0 0] (.agg (wA .u8 64 sumN5)) 2:=by
  refine reads_runs (fk:=2000002) (yty.enm tabS7 [mEnd] 2000002) Tryd.func11 (c:=(bdy Tryd.f11)) (by kernel_rfl) ⟨len2 _ _,by decide⟩ (by kernel_rfl) (K:=fun e s=>e= .ret∧resS (yty.enm tabS7 [mEnd] 2000002) s Tryd.f11.results.toList=some [.agg (wA .u8 64 sumN5)]) ?_ (fun e s h=>⟨h.1,_,h.2,rfl⟩)
  have e1:dL (wA .u64 8 bg5)=bg5:=dL_eq rfl
  have e2:dL (wA .u64 8 (bhd5 bg5 (fun i=>wd5 (wA .u8 128 nilL5) (0+8*i))))=bhd5 bg5 (fun i=>wd5 (wA .u8 128 nilL5) (0+8*i)):=dL_eq rfl
  refine(su5N_r g0 g1 (wA_one _ _ _) ⟨rfl,rfl,by rw[e1],wA_bytes (bt_pad (fun i _=> ?_)),by decide,by decide⟩ (wA_one _ _ _) (by rw[e1,e2]) (wA_one _ _ _)).mono ?_
  · have := bt_tl (a := #[]) (p := 0) (r := 0) (fun j h => by omega) i
    exact this
  · rintro e s ⟨rfl, c, ch, hs⟩
    rw[e1,e2] at hs
    subst hs
    unfold sumN5
    generalize bhd5 bg5 (fun i=>wd5 (wA .u8 128 nilL5) (0+8*i))=S
    generalize out5 S=X
    exact⟨rfl,by kernel_rfl⟩
end Go.Proofs.YtpmkojinhebihaaDoor
