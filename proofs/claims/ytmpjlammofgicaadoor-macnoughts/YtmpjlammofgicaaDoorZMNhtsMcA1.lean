import Derived.Test.YtmpjlammofgicaaDoorZMNhtsSdS1
set_option linter.unusedSimpArgs false
set_option linter.unusedVariables false
/-! mac: bytes masked, and a text behind them. -/
namespace Go.Proofs.YtmpjlammofgicaaDoor
open Go.RowKit Go.Ev
def maskL (K:List Int) (b:Int):List Int:=K.map fun x=>bits .xor .u8 x b
theorem maskL_len (K:List Int) (b:Int):(maskL K b).length=K.length:=by simp[maskL]
theorem made_wA (n:Nat):madeCells (#[.int .u8 0]) (n*1)=wA .u8 n []:=by
  apply Array.ext_getElem?
  intro i
  unfold madeCells wA
  simp only[Nat.mul_one]
  by_cases h:i<n
  · simp[h,Nat.mod_one]
  · simp[h]
theorem mask_step {a:Array Value} {n k:Nat} {b:Int} (h:k<n):(maskL (bL a 0 n) b).take k ++ [bits .xor .u8 (iat a (0+k)) b]=(maskL (bL a 0 n) b).take (k+1):=by
  have hl:k<(maskL (bL a 0 n) b).length:=by rw[maskL_len,bL_len];exact h
  rw[← tk_step hl]
  congr 2
  unfold maskL bL
  rw[List.getD_eq_getElem?_getD,List.getElem?_map,List.getElem?_map,List.getElem?_range h]
  rfl
theorem cp_behind {a : Array Value} {p r m : Nat} {Y : List Int} {off q : Nat} (hb : bytesAt a p r) (hz : p + r ≤ a.size) (hm : m = Y.length + r) (ho : off = Y.length ∨ r = 0 ∧ off ≤ m) (hq : q = r) : (off + q ≤ (wA .u8 m Y).size ∧ p + q ≤ a.size) ∧ (a.extract p (p + q)).all (fun v => v.oneCell') = true ∧ Calm.splice (wA .u8 m Y) off (a.extract p (p + q)) = wA .u8 m (Y ++ bL a p r) := by
  subst hq
  have hsz:(a.extract p (p+q)).size=q:=by rw[Array.size_extract];omega
  have hat:∀ j,j<q→(a.extract p (p+q))[j]? =some (.int .u8 (iat a (p+j))):=fun j hj=>by
    rw[Array.getElem?_extract_of_lt (by omega),← (hb j hj).1,Array.getElem?_eq_getElem]
  refine⟨⟨by rw[wA_size];omega,hz⟩,?_,?_⟩
  · rw [Array.all_eq_true]
    intro i hi
    have:=hat i (by omega)
    rw[Array.getElem?_eq_getElem hi] at this
    rw[Option.some.inj this];rfl
  · refine wA_ext ?_ (fun i hi => ?_)
    · unfold Calm.splice
      simp[hsz,wA_size]
      omega
    · have hm2 : (wA .u8 m Y).toList.length = m := by rw [Array.length_toList, wA_size]
      unfold Calm.splice
      rw[List.getElem?_toArray,List.getElem?_append,List.getElem?_append,List.length_append,List.length_take,hm2,Array.length_toList,hsz,getD_app]
      by_cases h:i<off
      · rw [if_pos (by omega), if_pos (by omega), List.getElem?_take_of_lt h, Array.getElem?_toList, wA_at hi]
        by_cases h2:i<Y.length
        · rw[if_pos h2]
        · rw[if_neg h2,bL_at,if_neg (by omega),List.getD_eq_getElem?_getD,List.getElem?_eq_none (by omega)];rfl
      · by_cases h3 : i < off + q
        · rw [if_pos (by omega), if_neg (by omega), Array.getElem?_toList, hat _ (by omega), if_neg (by omega), bL_at, if_pos (by omega)]
          congr 3;omega
        · rw [if_neg (by omega), List.getElem?_drop, Array.getElem?_toList, show off + q + (i - (min off m + q)) = i by omega, wA_at hi]
          by_cases h2:i<Y.length
          · rw[if_pos h2]
          · rw[if_neg h2,bL_at,if_neg (by omega),List.getD_eq_getElem?_getD,List.getElem?_eq_none (by omega)];rfl
abbrev mssA_s (K:Array Value) (tk:Tq) (n cp:Nat) (b:Int) (a:Array Value) (t:Tq) (p l c2:Nat) (j:Nat→Value):List Value:=([.slice (some ⟨0,0,none⟩) n cp,.int .u8 b,.slice (some ⟨1,p,none⟩) l c2] ++ (JU 34))
abbrev mssA_m (K:Array Value) (tk:Tq) (n cp:Nat) (b:Int) (a:Array Value) (t:Tq) (p l c2:Nat):List Mb:= [(K,tk),(a,t)]
abbrev mssB_s (K:Array Value) (tk:Tq) (n cp:Nat) (b:Int) (a:Array Value) (t:Tq) (p l c2:Nat) (j:Nat→Value):List Value:=([.slice (some ⟨0,0,none⟩) n cp,.int .u8 b,.slice (some ⟨1,p,none⟩) l c2] ++ (J j 3 34))
abbrev mssB_m (K:Array Value) (tk:Tq) (n cp:Nat) (b:Int) (a:Array Value) (t:Tq) (p l c2:Nat):List Mb:= [(K,tk),(a,t)]
def mss0p_h (i:Nat):Hn:=⟨0,[],[],[],[]⟩
def mss0p_b (K:Array Value) (tk:Tq) (n cp:Nat) (b:Int) (a:Array Value) (t:Tq) (p l c2:Nat) (j:Nat→Value):List Value:=([.slice (some ⟨0,0,none⟩) n cp,.int .u8 b,.slice (some ⟨1,p,none⟩) l c2] ++ (JU 3 ++ ([.slice none 0 0] ++ (JU 30))))
theorem mss0p_0 (K:Array Value) (tk:Tq) (n cp:Nat) (b:Int) (a:Array Value) (t:Tq) (p l c2:Nat) (j:Nat→Value):evC (yty.enf tab0 2) mss0p_h (cAt [0] (bdy Tryd.f36)) ⟨mssA_s K tk n cp b a t p l c2 j,mssA_m K tk n cp b a t p l c2,True,[]⟩=some (.normal,⟨mss0p_b K tk n cp b a t p l c2 j,[(K,tk),(a,t)],(True∧True),[]⟩):=by kernel_rfl
theorem mss0 (K:Array Value) (tk:Tq) (n cp:Nat) (b:Int) (a:Array Value) (t:Tq) (p l c2:Nat) (j:Nat→Value) (hb:bytesAt K 0 n) (hn:n≤1000000000) (ha:bytesAt a p l) (hz:p+l≤a.size) (hl:l≤1000000000) (hlc:l≤c2)  {c0:Prop} {ch0:List (Option Value)}:Runs Tryd.prog (cAt [0] (bdy Tryd.f36)) ⟨mssA_s K tk n cp b a t p l c2 j,mssA_m K tk n cp b a t p l c2,c0,ch0⟩ (fun e s=>e= .normal∧∃(j:Nat→Value) (c:Prop) (ch:List (Option Value)),s=⟨mssB_s K tk n cp b a t p l c2 j,mssB_m K tk n cp b a t p l c2,c,ch⟩) 2:=by
  refine(runs_ev mixed _ (mss0p_0 K tk n cp b a t p l c2 j) ⟨trivial,trivial⟩).mono ?_
  rintro e s ⟨rfl,hs⟩
  refine⟨rfl,fun q=>s.tm.getD q undef,s.c,s.ch,?_⟩
  subst hs
  kernel_rfl
abbrev mssC_s (K:Array Value) (tk:Tq) (n cp:Nat) (b:Int) (a:Array Value) (t:Tq) (p l c2:Nat) (m:Nat) (j:Nat→Value):List Value:=([.slice (some ⟨0,0,none⟩) n cp,.int .u8 b,.slice (some ⟨1,p,none⟩) l c2] ++ (J j 3 4 ++ ([.slice (some ⟨2,0,none⟩) m m] ++ (J j 8 29))))
abbrev mssC_m (K:Array Value) (tk:Tq) (n cp:Nat) (b:Int) (a:Array Value) (t:Tq) (p l c2:Nat) (m:Nat):List Mb:= [(K,tk),(a,t),((wA .u8 m []),(5,(0,0)))]
def mss1p_h (i:Nat):Hn:=⟨0,[],[],[],[]⟩
def mss1p_b (K:Array Value) (tk:Tq) (n cp:Nat) (b:Int) (a:Array Value) (t:Tq) (p l c2:Nat) (j:Nat→Value):List Value:=([.slice (some ⟨0,0,none⟩) n cp,.int .u8 b,.slice (some ⟨1,p,none⟩) l c2] ++ (J j 3 4 ++ ([.slice (some ⟨2,0,none⟩) (n+l) (n+l),j 8,j 9,.slice (some ⟨0,0,none⟩) n cp,.int .i64 ((n:Nat):Int),.slice (some ⟨1,p,none⟩) l c2,.int .i64 ((l:Nat):Int),.int .i64 ((n+l:Nat):Int),.slice (some ⟨2,0,none⟩) (n+l) (n+l)] ++ (J j 16 21))))
theorem mss1p_0 (K:Array Value) (tk:Tq) (n cp:Nat) (b:Int) (a:Array Value) (t:Tq) (p l c2:Nat) (j:Nat→Value):evC (yty.enf tab0 2) mss1p_h (cAt [1,0] (bdy Tryd.f36)) ⟨mssB_s K tk n cp b a t p l c2 j,mssB_m K tk n cp b a t p l c2,True,[some (.int .i64 ((n+l:Nat):Int))]⟩=some (.normal,⟨mss1p_b K tk n cp b a t p l c2 j,[(K,tk),(a,t),((madeCells (#[.int .u8 0]) ((n+l)*1)),(5,(0,0)))],(((((((True∧True)∧True)∧True)∧True)∧(True∧(IntKind.i64.wrap (((n:Nat):Int)+((l:Nat):Int)))=((n+l:Nat):Int)))∧(0≤((n+l:Nat):Int)∧((n+l:Nat):Int)=((n+l:Nat):Int)∧1*(n+l)≤281474976710656∧(n+l)≤9223372036854775807))∧True),[]⟩):=by kernel_rfl
theorem mss1 (K:Array Value) (tk:Tq) (n cp:Nat) (b:Int) (a:Array Value) (t:Tq) (p l c2:Nat) (j:Nat→Value) (hb:bytesAt K 0 n) (hn:n≤1000000000) (ha:bytesAt a p l) (hz:p+l≤a.size) (hl:l≤1000000000) (hlc:l≤c2)  {c0:Prop} {ch0:List (Option Value)}:Runs Tryd.prog (cAt [1,0] (bdy Tryd.f36)) ⟨mssB_s K tk n cp b a t p l c2 j,mssB_m K tk n cp b a t p l c2,c0,ch0⟩ (fun e s=>e= .normal∧∃(j:Nat→Value) (c:Prop) (ch:List (Option Value)),((n+l)=n+l)∧s=⟨mssC_s K tk n cp b a t p l c2 (n+l) j,mssC_m K tk n cp b a t p l c2 (n+l),c,ch⟩) 2:=by
  refine(runs_ev mixed _ (mss1p_0 K tk n cp b a t p l c2 j) ⟨⟨⟨⟨⟨⟨⟨trivial,trivial⟩,trivial⟩,trivial⟩,trivial⟩,⟨trivial,(by rw[IntKind.wrap_i64];omega)⟩⟩,⟨by omega,rfl,by omega,by omega⟩⟩,trivial⟩).mono ?_
  rintro e s ⟨rfl,hs⟩
  refine⟨rfl,fun q=>s.tm.getD q undef,s.c,s.ch,rfl,?_⟩
  subst hs
  rw[made_wA]
  kernel_rfl
abbrev mssD_s (K:Array Value) (tk:Tq) (n cp:Nat) (b:Int) (a:Array Value) (t:Tq) (p l c2:Nat) (m k:Nat) (Y:List Int) (j:Nat→Value):List Value:=([.slice (some ⟨0,0,none⟩) n cp,.int .u8 b,.slice (some ⟨1,p,none⟩) l c2] ++ (J j 3 4 ++ ([.slice (some ⟨2,0,none⟩) m m] ++ (J j 8 8 ++ ([.slice (some ⟨0,0,none⟩) n cp,.int .i64 ((n:Nat):Int),.int .i64 ((k:Nat):Int)] ++ (J j 19 18))))))
abbrev mssD_m (K:Array Value) (tk:Tq) (n cp:Nat) (b:Int) (a:Array Value) (t:Tq) (p l c2:Nat) (m k:Nat) (Y:List Int):List Mb:= [(K,tk),(a,t),((wA .u8 m Y),(5,(0,0)))]
def mss2p_h (i:Nat):Hn:=⟨0,[],[],[],[]⟩
def mss2p_b (K:Array Value) (tk:Tq) (n cp:Nat) (b:Int) (a:Array Value) (t:Tq) (p l c2:Nat) (m:Nat) (j:Nat→Value):List Value:=([.slice (some ⟨0,0,none⟩) n cp,.int .u8 b,.slice (some ⟨1,p,none⟩) l c2] ++ (J j 3 4 ++ ([.slice (some ⟨2,0,none⟩) m m] ++ (J j 8 8 ++ ([.slice (some ⟨0,0,none⟩) n cp,.int .i64 ((n:Nat):Int),.int .i64 0] ++ (J j 19 18))))))
theorem mss2p_0 (K:Array Value) (tk:Tq) (n cp:Nat) (b:Int) (a:Array Value) (t:Tq) (p l c2:Nat) (m:Nat) (j:Nat→Value):evC (yty.enf tab0 2) mss2p_h (cAt [1,1,0,0] (bdy Tryd.f36)) ⟨mssC_s K tk n cp b a t p l c2 m j,mssC_m K tk n cp b a t p l c2 m,True,[]⟩=some (.normal,⟨mss2p_b K tk n cp b a t p l c2 m j,[(K,tk),(a,t),((wA .u8 m []),(5,(0,0)))],(((True∧True)∧True)∧True),[]⟩):=by kernel_rfl
theorem mss2 (K:Array Value) (tk:Tq) (n cp:Nat) (b:Int) (a:Array Value) (t:Tq) (p l c2:Nat) (m:Nat) (j:Nat→Value) (hb:bytesAt K 0 n) (hn:n≤1000000000) (ha:bytesAt a p l) (hz:p+l≤a.size) (hl:l≤1000000000) (hlc:l≤c2) (hm:m=n+l)  {c0:Prop} {ch0:List (Option Value)}:Runs Tryd.prog (cAt [1,1,0,0] (bdy Tryd.f36)) ⟨mssC_s K tk n cp b a t p l c2 m j,mssC_m K tk n cp b a t p l c2 m,c0,ch0⟩ (fun e s=>e= .normal∧∃(j:Nat→Value) (c:Prop) (ch:List (Option Value)),(([]:List Int)=(maskL (bL K 0 n) b).take 0)∧(([]:List Int).length=0)∧(0≤n)∧s=⟨mssD_s K tk n cp b a t p l c2 m 0 ([]:List Int) j,mssD_m K tk n cp b a t p l c2 m 0 ([]:List Int),c,ch⟩) 2:=by
  refine(runs_ev mixed _ (mss2p_0 K tk n cp b a t p l c2 m j) ⟨⟨⟨trivial,trivial⟩,trivial⟩,trivial⟩).mono ?_
  rintro e s ⟨rfl,hs⟩
  refine⟨rfl,fun q=>s.tm.getD q undef,s.c,s.ch,rfl,rfl,Nat.zero_le _,?_⟩
  subst hs
  kernel_rfl
abbrev mssE_s (K:Array Value) (tk:Tq) (n cp:Nat) (b:Int) (a:Array Value) (t:Tq) (p l c2:Nat) (m k:Nat) (Y:List Int) (j:Nat→Value):List Value:=([.slice (some ⟨0,0,none⟩) n cp,.int .u8 b,.slice (some ⟨1,p,none⟩) l c2] ++ (J j 3 4 ++ ([.slice (some ⟨2,0,none⟩) m m] ++ (J j 8 8 ++ ([.slice (some ⟨0,0,none⟩) n cp,.int .i64 ((n:Nat):Int),.int .i64 ((k:Nat):Int)] ++ (J j 19 18))))))
abbrev mssE_m (K:Array Value) (tk:Tq) (n cp:Nat) (b:Int) (a:Array Value) (t:Tq) (p l c2:Nat) (m k:Nat) (Y:List Int):List Mb:= [(K,tk),(a,t),((wA .u8 m Y),(5,(0,0)))]
def mss3p_h (i:Nat):Hn:=⟨0,[],[],[],[]⟩
def mss3p_b (K:Array Value) (tk:Tq) (n cp:Nat) (b:Int) (a:Array Value) (t:Tq) (p l c2:Nat) (m k:Nat) (Y:List Int) (j:Nat→Value):List Value:=([.slice (some ⟨0,0,none⟩) n cp,.int .u8 b,.slice (some ⟨1,p,none⟩) l c2] ++ (J j 3 4 ++ ([.slice (some ⟨2,0,none⟩) m m,.int .i64 ((k:Nat):Int),.int .u8 (iat K (0+k))] ++ (J j 10 6 ++ ([.slice (some ⟨0,0,none⟩) n cp,.int .i64 ((n:Nat):Int),.int .i64 ((k+1:Nat):Int),.bool true,.int .i64 ((k:Nat):Int),.pointer (some ⟨0,0+Int.toNat ((k:Nat):Int)*1,none⟩),.int .u8 (iat K (0+k)),.slice (some ⟨2,0,none⟩) m m,.int .i64 ((k:Nat):Int),.int .u8 (iat K (0+k)),.int .u8 b,.int .u8 (bits .xor .u8 (iat K (0+k)) b),.pointer (some ⟨2,0+Int.toNat ((k:Nat):Int)*1,none⟩),.int .i64 ((k+1:Nat):Int)] ++ (J j 30 7))))))
theorem mss3p_0 (K:Array Value) (tk:Tq) (n cp:Nat) (b:Int) (a:Array Value) (t:Tq) (p l c2:Nat) (m k:Nat) (Y:List Int) (j:Nat→Value):evC (yty.enf tab0 2) mss3p_h (cAt [1,1,0,1,0,0] (bdy Tryd.f36)) ⟨mssD_s K tk n cp b a t p l c2 m k Y j,mssD_m K tk n cp b a t p l c2 m k Y,True,[some (.bool true),some (.int .u8 (iat K (0+k))),none,some (.agg (wA .u8 m (Y ++ [(bits .xor .u8 (iat K (0+k)) b)]))),some (.int .i64 ((k+1:Nat):Int))]⟩=some (.normal,⟨mss3p_b K tk n cp b a t p l c2 m k Y j,[(K,tk),(a,t),((wA .u8 m (Y ++ [(bits .xor .u8 (iat K (0+k)) b)])),(5,(0,0)))],(((((((((((((((True∧(True∧(decide (((k:Nat):Int)<((n:Nat):Int)))=true))∧True)∧((0:Int)≤((k:Nat):Int)∧(((k:Nat):Int):Int)<((n:Nat):Int)))∧((K[(0+Int.toNat ((k:Nat):Int)*1)]? =some (.int .u8 (iat K (0+k))))∧(iat K (0+k))=(iat K (0+k))))∧True)∧True)∧True)∧True)∧True)∧True)∧True)∧((0:Int)≤((k:Nat):Int)∧(((k:Nat):Int):Int)<((m:Nat):Int)))∧((0+Int.toNat ((k:Nat):Int)*1)<(wA .u8 m Y).size∧(wA .u8 m Y).setIfInBounds (0+Int.toNat ((k:Nat):Int)*1) (.int .u8 (bits .xor .u8 (iat K (0+k)) b))=(wA .u8 m (Y ++ [(bits .xor .u8 (iat K (0+k)) b)]))))∧(True∧(IntKind.i64.wrap (((k:Nat):Int)+1))=((k+1:Nat):Int)))∧True),[]⟩):=by kernel_rfl
theorem mss3 (K:Array Value) (tk:Tq) (n cp:Nat) (b:Int) (a:Array Value) (t:Tq) (p l c2:Nat) (m k:Nat) (Y:List Int) (j:Nat→Value) (hb:bytesAt K 0 n) (hn:n≤1000000000) (ha:bytesAt a p l) (hz:p+l≤a.size) (hl:l≤1000000000) (hlc:l≤c2) (hm:m=n+l) (hY:Y=(maskL (bL K 0 n) b).take k) (hYl:Y.length=k) (hk:k≤n) (hlt:k<n) {c0:Prop} {ch0:List (Option Value)}:Runs Tryd.prog (cAt [1,1,0,1,0,0] (bdy Tryd.f36)) ⟨mssD_s K tk n cp b a t p l c2 m k Y j,mssD_m K tk n cp b a t p l c2 m k Y,c0,ch0⟩ (fun e s=>e= .normal∧∃(j:Nat→Value) (c:Prop) (ch:List (Option Value)),((Y ++ [(bits .xor .u8 (iat K (0+k)) b)])=(maskL (bL K 0 n) b).take (k+1))∧((Y ++ [(bits .xor .u8 (iat K (0+k)) b)]).length=(k+1))∧((k+1)≤n)∧s=⟨mssD_s K tk n cp b a t p l c2 m (k+1) (Y ++ [(bits .xor .u8 (iat K (0+k)) b)]) j,mssD_m K tk n cp b a t p l c2 m (k+1) (Y ++ [(bits .xor .u8 (iat K (0+k)) b)]),c,ch⟩) 2:=by
  have h0:(decide (((k:Nat):Int)<((n:Nat):Int)))=true:=(decide_eq_true (by omega))
  refine(runs_ev mixed _ (mss3p_0 K tk n cp b a t p l c2 m k Y j) ⟨⟨⟨⟨⟨⟨⟨⟨⟨⟨⟨⟨⟨⟨⟨trivial,⟨trivial,h0⟩⟩,trivial⟩,(by(try simp only[Int.toNat_natCast,wA_size]);omega)⟩,⟨(by rw[Int.toNat_natCast,Nat.mul_one];exact(hb k hlt).1),rfl⟩⟩,trivial⟩,trivial⟩,trivial⟩,trivial⟩,trivial⟩,trivial⟩,trivial⟩,(by(try simp only[Int.toNat_natCast,wA_size]);omega)⟩,wA_set (by omega) (by omega)⟩,⟨trivial,(by rw[IntKind.wrap_i64];omega)⟩⟩,trivial⟩).mono ?_
  rintro e s ⟨rfl,hs⟩
  refine⟨rfl,fun q=>s.tm.getD q undef,s.c,s.ch,by rw[hY];exact mask_step hlt,by simp only[List.length_append,List.length_cons,List.length_nil];omega,by omega,?_⟩
  subst hs
  kernel_rfl
def mss4p_h (i:Nat):Hn:=⟨0,[],[],[],[]⟩
def mss4p_b (K:Array Value) (tk:Tq) (n cp:Nat) (b:Int) (a:Array Value) (t:Tq) (p l c2:Nat) (m k:Nat) (Y:List Int) (j:Nat→Value):List Value:=([.slice (some ⟨0,0,none⟩) n cp,.int .u8 b,.slice (some ⟨1,p,none⟩) l c2] ++ (J j 3 4 ++ ([.slice (some ⟨2,0,none⟩) m m] ++ (J j 8 8 ++ ([.slice (some ⟨0,0,none⟩) n cp,.int .i64 ((n:Nat):Int),.int .i64 ((k:Nat):Int),.bool false] ++ (J j 20 17))))))
theorem mss4p_0 (K:Array Value) (tk:Tq) (n cp:Nat) (b:Int) (a:Array Value) (t:Tq) (p l c2:Nat) (m k:Nat) (Y:List Int) (j:Nat→Value):evC (yty.enf tab0 2) mss4p_h (cAt [1,1,0,1,0,0] (bdy Tryd.f36)) ⟨mssD_s K tk n cp b a t p l c2 m k Y j,mssD_m K tk n cp b a t p l c2 m k Y,True,[some (.bool false)]⟩=some ((.exit 0),⟨mss4p_b K tk n cp b a t p l c2 m k Y j,[(K,tk),(a,t),((wA .u8 m Y),(5,(0,0)))],(True∧(True∧(decide (((k:Nat):Int)<((n:Nat):Int)))=false)),[]⟩):=by kernel_rfl
theorem mss4 (K:Array Value) (tk:Tq) (n cp:Nat) (b:Int) (a:Array Value) (t:Tq) (p l c2:Nat) (m k:Nat) (Y:List Int) (j:Nat→Value) (hb:bytesAt K 0 n) (hn:n≤1000000000) (ha:bytesAt a p l) (hz:p+l≤a.size) (hl:l≤1000000000) (hlc:l≤c2) (hm:m=n+l) (hY:Y=(maskL (bL K 0 n) b).take k) (hYl:Y.length=k) (hk:k≤n) (hge:¬ k<n) {c0:Prop} {ch0:List (Option Value)}:Runs Tryd.prog (cAt [1,1,0,1,0,0] (bdy Tryd.f36)) ⟨mssD_s K tk n cp b a t p l c2 m k Y j,mssD_m K tk n cp b a t p l c2 m k Y,c0,ch0⟩ (fun e s=>e=(.exit 0)∧∃(j:Nat→Value) (c:Prop) (ch:List (Option Value)),(k=n)∧s=⟨mssE_s K tk n cp b a t p l c2 m k Y j,mssE_m K tk n cp b a t p l c2 m k Y,c,ch⟩) 2:=by
  have h0:(decide (((k:Nat):Int)<((n:Nat):Int)))=false:=(decide_eq_false (by omega))
  refine(runs_ev mixed _ (mss4p_0 K tk n cp b a t p l c2 m k Y j) ⟨trivial,⟨trivial,h0⟩⟩).mono ?_
  rintro e s ⟨rfl,hs⟩
  refine⟨rfl,fun q=>s.tm.getD q undef,s.c,s.ch,by omega,?_⟩
  subst hs
  kernel_rfl
theorem mss5L (K:Array Value) (tk:Tq) (n:Nat) (cp:Nat) (b:Int) (a:Array Value) (t:Tq) (p:Nat) (l:Nat) (c2:Nat) (m:Nat) (j:Nat→Value) (hb:bytesAt K 0 n) (hn:n≤1000000000) (ha:bytesAt a p l) (hz:p+l≤a.size) (hl:l≤1000000000) (hlc:l≤c2) (hm:m=n+l) (ihY:([]:List Int)=(maskL (bL K 0 n) b).take 0) (ihYl:([]:List Int).length=0) (ihk:0≤n)  {c0:Prop} {ch0:List (Option Value)}:Runs Tryd.prog (.loop (cAt [1,1,0,1,0,0] (bdy Tryd.f36))) ⟨mssD_s K tk n cp b a t p l c2 m 0 ([]:List Int) j,mssD_m K tk n cp b a t p l c2 m 0 ([]:List Int),c0,ch0⟩ (fun e s=>e= .exit 0∧∃(k:Nat) (Y:List Int) (j:Nat→Value) (c:Prop) (ch:List (Option Value)),(Y=(maskL (bL K 0 n) b).take k)∧(Y.length=k)∧(k=n)∧s=⟨mssE_s K tk n cp b a t p l c2 m k Y j,mssE_m K tk n cp b a t p l c2 m k Y,c,ch⟩) 2:=by
  refine runs_loop (fun M s=>∃(k:Nat) (Y:List Int) (j:Nat→Value) (c:Prop) (ch:List (Option Value)),(Y=(maskL (bL K 0 n) b).take k)∧(Y.length=k)∧(k≤n)∧M=n - k∧s=⟨mssD_s K tk n cp b a t p l c2 m k Y j,mssD_m K tk n cp b a t p l c2 m k Y,c,ch⟩) (n - 0) ⟨0,([]:List Int),j,c0,ch0,ihY,ihYl,ihk,rfl,rfl⟩ ?_
  rintro M s ⟨k,Y,j,c,ch,hY,hYl,hk,rfl,rfl⟩
  by_cases hlt:k<n
  · skip
    refine(mss3 K tk n cp b a t p l c2 m k Y j hb hn ha hz hl hlc hm hY hYl hk hlt).mono ?_
    rintro e s ⟨rfl,j,c,ch,f7,f8,f9,rfl⟩
    exact .inl ⟨rfl,n - (k+1),by omega,⟨(k+1),(Y ++ [(bits .xor .u8 (iat K (0+k)) b)]),j,c,ch,f7,f8,f9,rfl,rfl⟩⟩
  · refine (mss4 K tk n cp b a t p l c2 m k Y j hb hn ha hz hl hlc hm hY hYl hk hlt).mono ?_
    intro e s hh
    obtain⟨rfl,j,c,ch,f9,rfl⟩:=hh
    exact .inr ⟨by simp,rfl,k,Y,j,c,ch,hY,hYl,f9,rfl⟩
theorem mss5 (K:Array Value) (tk:Tq) (n:Nat) (cp:Nat) (b:Int) (a:Array Value) (t:Tq) (p:Nat) (l:Nat) (c2:Nat) (m:Nat) (j:Nat→Value) (hb:bytesAt K 0 n) (hn:n≤1000000000) (ha:bytesAt a p l) (hz:p+l≤a.size) (hl:l≤1000000000) (hlc:l≤c2) (hm:m=n+l) (ihY:([]:List Int)=(maskL (bL K 0 n) b).take 0) (ihYl:([]:List Int).length=0) (ihk:0≤n)  {c0:Prop} {ch0:List (Option Value)}:Runs Tryd.prog (cAt [1,1,0,1] (bdy Tryd.f36)) ⟨mssD_s K tk n cp b a t p l c2 m 0 ([]:List Int) j,mssD_m K tk n cp b a t p l c2 m 0 ([]:List Int),c0,ch0⟩ (fun e s=>e= .normal∧∃(k:Nat) (Y:List Int) (j:Nat→Value) (c:Prop) (ch:List (Option Value)),(Y=(maskL (bL K 0 n) b).take k)∧(Y.length=k)∧(k=n)∧s=⟨mssE_s K tk n cp b a t p l c2 m k Y j,mssE_m K tk n cp b a t p l c2 m k Y,c,ch⟩) 2:=by
  rw[show(cAt [1,1,0,1] (bdy Tryd.f36))= .block 0 (.loop (cAt [1,1,0,1,0,0] (bdy Tryd.f36))) from by kernel_rfl]
  refine runs_block (mss5L K tk n cp b a t p l c2 m j hb hn ha hz hl hlc hm ihY ihYl ihk ) ?_
  rintro e s ⟨rfl,hh⟩
  exact .inl ⟨rfl,rfl,hh⟩
theorem mss6 (K:Array Value) (tk:Tq) (n cp:Nat) (b:Int) (a:Array Value) (t:Tq) (p l c2:Nat) (m:Nat) (j:Nat→Value) (hb:bytesAt K 0 n) (hn:n≤1000000000) (ha:bytesAt a p l) (hz:p+l≤a.size) (hl:l≤1000000000) (hlc:l≤c2) (hm:m=n+l)  {c0:Prop} {ch0:List (Option Value)}:Runs Tryd.prog (cAt [1,1,0] (bdy Tryd.f36)) ⟨mssC_s K tk n cp b a t p l c2 m j,mssC_m K tk n cp b a t p l c2 m,c0,ch0⟩ (fun e s=>e= .normal∧∃(k1:Nat) (Y1:List Int) (j:Nat→Value) (c:Prop) (ch:List (Option Value)),(Y1=(maskL (bL K 0 n) b).take k1)∧(Y1.length=k1)∧(k1=n)∧s=⟨mssE_s K tk n cp b a t p l c2 m k1 Y1 j,mssE_m K tk n cp b a t p l c2 m k1 Y1,c,ch⟩) 2:=by
  rw[show(cAt [1,1,0] (bdy Tryd.f36))=(.seq (cAt [1,1,0,0] (bdy Tryd.f36)) (cAt [1,1,0,1] (bdy Tryd.f36))) from by kernel_rfl]
  refine runs_seq (mss2 K tk n cp b a t p l c2 m j hb hn ha hz hl hlc hm ) (fun s hh=> ?_) (fun e s hne hh=>absurd hh.1 hne)
  obtain⟨_,j,c,ch,f0_7,f0_8,f0_9,rfl⟩:=hh
  refine(mss5 K tk n cp b a t p l c2 m j hb hn ha hz hl hlc hm f0_7 f0_8 f0_9 ).mono ?_
  rintro e s ⟨rfl,k1,Y1,j,c,ch,f1_7,f1_8,f1_9,rfl⟩
  exact⟨rfl,k1,Y1,j,c,ch,f1_7,f1_8,f1_9,rfl⟩
abbrev mssF_s (K:Array Value) (tk:Tq) (n cp:Nat) (b:Int) (a:Array Value) (t:Tq) (p l c2:Nat) (m k:Nat) (Y:List Int) (j:Nat→Value):List Value:=(J j 0 7 ++ ([.slice (some ⟨2,0,none⟩) m m] ++ (J j 8 29)))
abbrev mssF_m (K:Array Value) (tk:Tq) (n cp:Nat) (b:Int) (a:Array Value) (t:Tq) (p l c2:Nat) (m k:Nat) (Y:List Int):List Mb:= [(K,tk),(a,t),((wA .u8 m (maskL (bL K 0 n) b ++ bL a p l)),(5,(0,0)))]
def mss7p_h (i:Nat):Hn:=⟨0,[],[],[],[]⟩
def mss7p_b (K:Array Value) (tk:Tq) (n cp:Nat) (b:Int) (a:Array Value) (t:Tq) (p l c2:Nat) (m k:Nat) (Y:List Int) (j:Nat→Value):List Value:=([.slice (some ⟨0,0,none⟩) n cp,.int .u8 b,.slice (some ⟨1,p,none⟩) l c2] ++ (J j 3 4 ++ ([.slice (some ⟨2,0,none⟩) m m] ++ (J j 8 8 ++ ([.slice (some ⟨0,0,none⟩) n cp,.int .i64 ((n:Nat):Int),.int .i64 ((k:Nat):Int)] ++ (J j 19 11 ++ ([.slice (some ⟨2,0,none⟩) m m,.slice (some ⟨0,0,none⟩) n cp,.int .i64 ((n:Nat):Int),.slice (some ⟨2,(if m=n then 0 else 0+n*1),none⟩) (m - n) (m - n),.slice (some ⟨1,p,none⟩) l c2,.int .i64 ((Nat.min l (m - n):Nat):Int),j 36])))))))
theorem mss7p_0 (K:Array Value) (tk:Tq) (n cp:Nat) (b:Int) (a:Array Value) (t:Tq) (p l c2:Nat) (m k:Nat) (Y:List Int) (j:Nat→Value):evC (yty.enf tab0 2) mss7p_h (cAt [1,1,1,0] (bdy Tryd.f36)) ⟨mssE_s K tk n cp b a t p l c2 m k Y j,mssE_m K tk n cp b a t p l c2 m k Y,True,[some (.agg (wA .u8 m (Y ++ bL a p l)))]⟩=some (.normal,⟨mss7p_b K tk n cp b a t p l c2 m k Y j,[(K,tk),(a,t),((wA .u8 m (Y ++ bL a p l)),(5,(0,0)))],((((((True∧True)∧True)∧True)∧(((0≤((n:Nat):Int))∧True)∧n≤m∧m≤m))∧True)∧(((if m=n then 0 else 0+n*1)+Nat.min l (m - n)≤(wA .u8 m Y).size∧p+Nat.min l (m - n)≤a.size)∧(a.extract p (p+Nat.min l (m - n))).all (fun v=>v.oneCell')=true∧Calm.splice (wA .u8 m Y) (if m=n then 0 else 0+n*1) (a.extract p (p+Nat.min l (m - n)))=(wA .u8 m (Y ++ bL a p l)))),[]⟩):=by kernel_rfl
theorem mss7 (K:Array Value) (tk:Tq) (n cp:Nat) (b:Int) (a:Array Value) (t:Tq) (p l c2:Nat) (m k:Nat) (Y:List Int) (j:Nat→Value) (hb:bytesAt K 0 n) (hn:n≤1000000000) (ha:bytesAt a p l) (hz:p+l≤a.size) (hl:l≤1000000000) (hlc:l≤c2) (hm:m=n+l) (hY:Y=(maskL (bL K 0 n) b).take k) (hYl:Y.length=k) (hk:k=n)  {c0:Prop} {ch0:List (Option Value)}:Runs Tryd.prog (cAt [1,1,1,0] (bdy Tryd.f36)) ⟨mssE_s K tk n cp b a t p l c2 m k Y j,mssE_m K tk n cp b a t p l c2 m k Y,c0,ch0⟩ (fun e s=>e= .normal∧∃(j:Nat→Value) (c:Prop) (ch:List (Option Value)),s=⟨mssF_s K tk n cp b a t p l c2 m k Y j,mssF_m K tk n cp b a t p l c2 m k Y,c,ch⟩) 2:=by
  have e:Y=maskL (bL K 0 n) b:=by rw[hY,hk,List.take_of_length_le (by rw[maskL_len,bL_len];omega)]
  refine(runs_ev mixed _ (mss7p_0 K tk n cp b a t p l c2 m k Y j) ⟨⟨⟨⟨⟨⟨trivial,trivial⟩,trivial⟩,trivial⟩,(by refine⟨⟨?_,?_⟩,?_,?_⟩<;>first|trivial|omega)⟩,trivial⟩,cp_behind ha hz (by omega) (by by_cases h:m=n;exact .inr ⟨by omega,by rw[if_pos h];omega⟩;exact .inl (by rw[if_neg h];omega)) (Nat.min_eq_left (by omega))⟩).mono ?_
  rintro e s ⟨rfl,hs⟩
  refine⟨rfl,fun q=>s.tm.getD q undef,s.c,s.ch,?_⟩
  subst hs
  rw[e]
  kernel_rfl
abbrev mssG_s (K:Array Value) (tk:Tq) (n cp:Nat) (b:Int) (a:Array Value) (t:Tq) (p l c2:Nat) (m k:Nat) (Y:List Int) (j:Nat→Value):List Value:=(J j 0 6 ++ ([.slice (some ⟨2,0,none⟩) m m] ++ (J j 7 30)))
abbrev mssG_m (K:Array Value) (tk:Tq) (n cp:Nat) (b:Int) (a:Array Value) (t:Tq) (p l c2:Nat) (m k:Nat) (Y:List Int):List Mb:= [(K,tk),(a,t),((wA .u8 m (maskL (bL K 0 n) b ++ bL a p l)),(5,(0,0)))]
def mss8p_h (i:Nat):Hn:=⟨0,[],[],[],[]⟩
def mss8p_b (K:Array Value) (tk:Tq) (n cp:Nat) (b:Int) (a:Array Value) (t:Tq) (p l c2:Nat) (m k:Nat) (Y:List Int) (j:Nat→Value):List Value:=(J j 0 6 ++ ([.slice (some ⟨2,0,none⟩) m m,.slice (some ⟨2,0,none⟩) m m] ++ (J j 8 28 ++ ([.slice (some ⟨2,0,none⟩) m m]))))
theorem mss8p_0 (K:Array Value) (tk:Tq) (n cp:Nat) (b:Int) (a:Array Value) (t:Tq) (p l c2:Nat) (m k:Nat) (Y:List Int) (j:Nat→Value):evC (yty.enf tab0 2) mss8p_h (cAt [1,1,1,1] (bdy Tryd.f36)) ⟨mssF_s K tk n cp b a t p l c2 m k Y j,mssF_m K tk n cp b a t p l c2 m k Y,True,[]⟩=some (.ret,⟨mss8p_b K tk n cp b a t p l c2 m k Y j,[(K,tk),(a,t),((wA .u8 m (maskL (bL K 0 n) b ++ bL a p l)),(5,(0,0)))],((True∧True)∧True),[]⟩):=by kernel_rfl
theorem mss8 (K:Array Value) (tk:Tq) (n cp:Nat) (b:Int) (a:Array Value) (t:Tq) (p l c2:Nat) (m k:Nat) (Y:List Int) (j:Nat→Value) (hb:bytesAt K 0 n) (hn:n≤1000000000) (ha:bytesAt a p l) (hz:p+l≤a.size) (hl:l≤1000000000) (hlc:l≤c2) (hm:m=n+l) (hY:Y=(maskL (bL K 0 n) b).take k) (hYl:Y.length=k) (hk:k=n)  {c0:Prop} {ch0:List (Option Value)}:Runs Tryd.prog (cAt [1,1,1,1] (bdy Tryd.f36)) ⟨mssF_s K tk n cp b a t p l c2 m k Y j,mssF_m K tk n cp b a t p l c2 m k Y,c0,ch0⟩ (fun e s=>e= .ret∧∃(j:Nat→Value) (c:Prop) (ch:List (Option Value)),s=⟨mssG_s K tk n cp b a t p l c2 m k Y j,mssG_m K tk n cp b a t p l c2 m k Y,c,ch⟩) 2:=by
  refine(runs_ev mixed _ (mss8p_0 K tk n cp b a t p l c2 m k Y j) ⟨⟨trivial,trivial⟩,trivial⟩).mono ?_
  rintro e s ⟨rfl,hs⟩
  refine⟨rfl,fun q=>s.tm.getD q undef,s.c,s.ch,?_⟩
  subst hs
  kernel_rfl
theorem mssu (K:Array Value) (tk:Tq) (n cp:Nat) (b:Int) (a:Array Value) (t:Tq) (p l c2:Nat) (j:Nat→Value) (hb:bytesAt K 0 n) (hn:n≤1000000000) (ha:bytesAt a p l) (hz:p+l≤a.size) (hl:l≤1000000000) (hlc:l≤c2)  {c0:Prop} {ch0:List (Option Value)}:Runs Tryd.prog (cAt [] (bdy Tryd.f36)) ⟨mssA_s K tk n cp b a t p l c2 j,mssA_m K tk n cp b a t p l c2,c0,ch0⟩ (fun e s=>e= .ret∧∃(k12:Nat) (Y12:List Int) (j:Nat→Value) (c:Prop) (ch:List (Option Value)),((n+l)=n+l)∧(Y12=(maskL (bL K 0 n) b).take k12)∧(Y12.length=k12)∧(k12=n)∧s=⟨mssG_s K tk n cp b a t p l c2 (n+l) k12 Y12 j,mssG_m K tk n cp b a t p l c2 (n+l) k12 Y12,c,ch⟩) 2:=by
  rw[show(cAt [] (bdy Tryd.f36))=(.seq (cAt [0] (bdy Tryd.f36)) (.seq (cAt [1,0] (bdy Tryd.f36)) (.seq (cAt [1,1,0] (bdy Tryd.f36)) (.seq (cAt [1,1,1,0] (bdy Tryd.f36)) (cAt [1,1,1,1] (bdy Tryd.f36)))))) from by kernel_rfl]
  refine runs_seq (mss0 K tk n cp b a t p l c2 j hb hn ha hz hl hlc ) (fun s hh=> ?_) (fun e s hne hh=>absurd hh.1 hne)
  obtain⟨_,j,c,ch,rfl⟩:=hh
  refine runs_seq (mss1 K tk n cp b a t p l c2 j hb hn ha hz hl hlc ) (fun s hh=> ?_) (fun e s hne hh=>absurd hh.1 hne)
  obtain⟨_,j,c,ch,f1_6,rfl⟩:=hh
  refine runs_seq (mss6 K tk n cp b a t p l c2 (n+l) j hb hn ha hz hl hlc f1_6 ) (fun s hh=> ?_) (fun e s hne hh=>absurd hh.1 hne)
  obtain⟨_,k12,Y12,j,c,ch,f2_7,f2_8,f2_9,rfl⟩:=hh
  refine runs_seq (mss7 K tk n cp b a t p l c2 (n+l) k12 Y12 j hb hn ha hz hl hlc f1_6 f2_7 f2_8 f2_9 ) (fun s hh=> ?_) (fun e s hne hh=>absurd hh.1 hne)
  obtain⟨_,j,c,ch,rfl⟩:=hh
  refine(mss8 K tk n cp b a t p l c2 (n+l) k12 Y12 j hb hn ha hz hl hlc f1_6 f2_7 f2_8 f2_9 ).mono ?_
  rintro e s ⟨rfl,j,c,ch,rfl⟩
  exact⟨rfl,k12,Y12,j,c,ch,f1_6,f2_7,f2_8,f2_9,rfl⟩
abbrev msnA_s (K:Array Value) (tk:Tq) (n cp:Nat) (b:Int) (j:Nat→Value):List Value:=([.slice (some ⟨0,0,none⟩) n cp,.int .u8 b,.slice none 0 0] ++ (JU 34))
abbrev msnA_m (K:Array Value) (tk:Tq) (n cp:Nat) (b:Int):List Mb:= [(K,tk)]
abbrev msnB_s (K:Array Value) (tk:Tq) (n cp:Nat) (b:Int) (j:Nat→Value):List Value:=([.slice (some ⟨0,0,none⟩) n cp,.int .u8 b,.slice none 0 0] ++ (J j 3 34))
abbrev msnB_m (K:Array Value) (tk:Tq) (n cp:Nat) (b:Int):List Mb:= [(K,tk)]
def msn0p_h (i:Nat):Hn:=⟨0,[],[],[],[]⟩
def msn0p_b (K:Array Value) (tk:Tq) (n cp:Nat) (b:Int) (j:Nat→Value):List Value:=([.slice (some ⟨0,0,none⟩) n cp,.int .u8 b,.slice none 0 0] ++ (JU 3 ++ ([.slice none 0 0] ++ (JU 30))))
theorem msn0p_0 (K:Array Value) (tk:Tq) (n cp:Nat) (b:Int) (j:Nat→Value):evC (yty.enf tab0 1) msn0p_h (cAt [0] (bdy Tryd.f36)) ⟨msnA_s K tk n cp b j,msnA_m K tk n cp b,True,[]⟩=some (.normal,⟨msn0p_b K tk n cp b j,[(K,tk)],(True∧True),[]⟩):=by kernel_rfl
theorem msn0 (K:Array Value) (tk:Tq) (n cp:Nat) (b:Int) (j:Nat→Value) (hb:bytesAt K 0 n) (hn:n≤1000000000)  {c0:Prop} {ch0:List (Option Value)}:Runs Tryd.prog (cAt [0] (bdy Tryd.f36)) ⟨msnA_s K tk n cp b j,msnA_m K tk n cp b,c0,ch0⟩ (fun e s=>e= .normal∧∃(j:Nat→Value) (c:Prop) (ch:List (Option Value)),s=⟨msnB_s K tk n cp b j,msnB_m K tk n cp b,c,ch⟩) 1:=by
  refine(runs_ev mixed _ (msn0p_0 K tk n cp b j) ⟨trivial,trivial⟩).mono ?_
  rintro e s ⟨rfl,hs⟩
  refine⟨rfl,fun q=>s.tm.getD q undef,s.c,s.ch,?_⟩
  subst hs
  kernel_rfl
abbrev msnC_s (K:Array Value) (tk:Tq) (n cp:Nat) (b:Int) (m:Nat) (j:Nat→Value):List Value:=([.slice (some ⟨0,0,none⟩) n cp,.int .u8 b,.slice none 0 0] ++ (J j 3 4 ++ ([.slice (some ⟨1,0,none⟩) m m] ++ (J j 8 29))))
abbrev msnC_m (K:Array Value) (tk:Tq) (n cp:Nat) (b:Int) (m:Nat):List Mb:= [(K,tk),((wA .u8 m []),(5,(0,0)))]
def msn1p_h (i:Nat):Hn:=⟨0,[],[],[],[]⟩
def msn1p_b (K:Array Value) (tk:Tq) (n cp:Nat) (b:Int) (j:Nat→Value):List Value:=([.slice (some ⟨0,0,none⟩) n cp,.int .u8 b,.slice none 0 0] ++ (J j 3 4 ++ ([.slice (some ⟨1,0,none⟩) n n,j 8,j 9,.slice (some ⟨0,0,none⟩) n cp,.int .i64 ((n:Nat):Int),.slice none 0 0,.int .i64 0,.int .i64 ((n:Nat):Int),.slice (some ⟨1,0,none⟩) n n] ++ (J j 16 21))))
theorem msn1p_0 (K:Array Value) (tk:Tq) (n cp:Nat) (b:Int) (j:Nat→Value):evC (yty.enf tab0 1) msn1p_h (cAt [1,0] (bdy Tryd.f36)) ⟨msnB_s K tk n cp b j,msnB_m K tk n cp b,True,[some (.int .i64 ((n:Nat):Int))]⟩=some (.normal,⟨msn1p_b K tk n cp b j,[(K,tk),((madeCells (#[.int .u8 0]) (n*1)),(5,(0,0)))],(((((((True∧True)∧True)∧True)∧True)∧(True∧(IntKind.i64.wrap (((n:Nat):Int)+0))=((n:Nat):Int)))∧(0≤((n:Nat):Int)∧((n:Nat):Int)=((n:Nat):Int)∧1*n≤281474976710656∧n≤9223372036854775807))∧True),[]⟩):=by kernel_rfl
theorem msn1 (K:Array Value) (tk:Tq) (n cp:Nat) (b:Int) (j:Nat→Value) (hb:bytesAt K 0 n) (hn:n≤1000000000)  {c0:Prop} {ch0:List (Option Value)}:Runs Tryd.prog (cAt [1,0] (bdy Tryd.f36)) ⟨msnB_s K tk n cp b j,msnB_m K tk n cp b,c0,ch0⟩ (fun e s=>e= .normal∧∃(j:Nat→Value) (c:Prop) (ch:List (Option Value)),((n)=n+0)∧s=⟨msnC_s K tk n cp b (n) j,msnC_m K tk n cp b (n),c,ch⟩) 1:=by
  refine(runs_ev mixed _ (msn1p_0 K tk n cp b j) ⟨⟨⟨⟨⟨⟨⟨trivial,trivial⟩,trivial⟩,trivial⟩,trivial⟩,⟨trivial,(by rw[IntKind.wrap_i64];omega)⟩⟩,⟨by omega,rfl,by omega,by omega⟩⟩,trivial⟩).mono ?_
  rintro e s ⟨rfl,hs⟩
  refine⟨rfl,fun q=>s.tm.getD q undef,s.c,s.ch,rfl,?_⟩
  subst hs
  rw[made_wA]
  kernel_rfl
abbrev msnD_s (K:Array Value) (tk:Tq) (n cp:Nat) (b:Int) (m k:Nat) (Y:List Int) (j:Nat→Value):List Value:=([.slice (some ⟨0,0,none⟩) n cp,.int .u8 b,.slice none 0 0] ++ (J j 3 4 ++ ([.slice (some ⟨1,0,none⟩) m m] ++ (J j 8 8 ++ ([.slice (some ⟨0,0,none⟩) n cp,.int .i64 ((n:Nat):Int),.int .i64 ((k:Nat):Int)] ++ (J j 19 18))))))
abbrev msnD_m (K:Array Value) (tk:Tq) (n cp:Nat) (b:Int) (m k:Nat) (Y:List Int):List Mb:= [(K,tk),((wA .u8 m Y),(5,(0,0)))]
def msn2p_h (i:Nat):Hn:=⟨0,[],[],[],[]⟩
def msn2p_b (K:Array Value) (tk:Tq) (n cp:Nat) (b:Int) (m:Nat) (j:Nat→Value):List Value:=([.slice (some ⟨0,0,none⟩) n cp,.int .u8 b,.slice none 0 0] ++ (J j 3 4 ++ ([.slice (some ⟨1,0,none⟩) m m] ++ (J j 8 8 ++ ([.slice (some ⟨0,0,none⟩) n cp,.int .i64 ((n:Nat):Int),.int .i64 0] ++ (J j 19 18))))))
theorem msn2p_0 (K:Array Value) (tk:Tq) (n cp:Nat) (b:Int) (m:Nat) (j:Nat→Value):evC (yty.enf tab0 1) msn2p_h (cAt [1,1,0,0] (bdy Tryd.f36)) ⟨msnC_s K tk n cp b m j,msnC_m K tk n cp b m,True,[]⟩=some (.normal,⟨msn2p_b K tk n cp b m j,[(K,tk),((wA .u8 m []),(5,(0,0)))],(((True∧True)∧True)∧True),[]⟩):=by kernel_rfl
theorem msn2 (K:Array Value) (tk:Tq) (n cp:Nat) (b:Int) (m:Nat) (j:Nat→Value) (hb:bytesAt K 0 n) (hn:n≤1000000000) (hm:m=n+0)  {c0:Prop} {ch0:List (Option Value)}:Runs Tryd.prog (cAt [1,1,0,0] (bdy Tryd.f36)) ⟨msnC_s K tk n cp b m j,msnC_m K tk n cp b m,c0,ch0⟩ (fun e s=>e= .normal∧∃(j:Nat→Value) (c:Prop) (ch:List (Option Value)),(([]:List Int)=(maskL (bL K 0 n) b).take 0)∧(([]:List Int).length=0)∧(0≤n)∧s=⟨msnD_s K tk n cp b m 0 ([]:List Int) j,msnD_m K tk n cp b m 0 ([]:List Int),c,ch⟩) 1:=by
  refine(runs_ev mixed _ (msn2p_0 K tk n cp b m j) ⟨⟨⟨trivial,trivial⟩,trivial⟩,trivial⟩).mono ?_
  rintro e s ⟨rfl,hs⟩
  refine⟨rfl,fun q=>s.tm.getD q undef,s.c,s.ch,rfl,rfl,Nat.zero_le _,?_⟩
  subst hs
  kernel_rfl
abbrev msnE_s (K:Array Value) (tk:Tq) (n cp:Nat) (b:Int) (m k:Nat) (Y:List Int) (j:Nat→Value):List Value:=([.slice (some ⟨0,0,none⟩) n cp,.int .u8 b,.slice none 0 0] ++ (J j 3 4 ++ ([.slice (some ⟨1,0,none⟩) m m] ++ (J j 8 8 ++ ([.slice (some ⟨0,0,none⟩) n cp,.int .i64 ((n:Nat):Int),.int .i64 ((k:Nat):Int)] ++ (J j 19 18))))))
abbrev msnE_m (K:Array Value) (tk:Tq) (n cp:Nat) (b:Int) (m k:Nat) (Y:List Int):List Mb:= [(K,tk),((wA .u8 m Y),(5,(0,0)))]
def msn3p_h (i:Nat):Hn:=⟨0,[],[],[],[]⟩
def msn3p_b (K:Array Value) (tk:Tq) (n cp:Nat) (b:Int) (m k:Nat) (Y:List Int) (j:Nat→Value):List Value:=([.slice (some ⟨0,0,none⟩) n cp,.int .u8 b,.slice none 0 0] ++ (J j 3 4 ++ ([.slice (some ⟨1,0,none⟩) m m,.int .i64 ((k:Nat):Int),.int .u8 (iat K (0+k))] ++ (J j 10 6 ++ ([.slice (some ⟨0,0,none⟩) n cp,.int .i64 ((n:Nat):Int),.int .i64 ((k+1:Nat):Int),.bool true,.int .i64 ((k:Nat):Int),.pointer (some ⟨0,0+Int.toNat ((k:Nat):Int)*1,none⟩),.int .u8 (iat K (0+k)),.slice (some ⟨1,0,none⟩) m m,.int .i64 ((k:Nat):Int),.int .u8 (iat K (0+k)),.int .u8 b,.int .u8 (bits .xor .u8 (iat K (0+k)) b),.pointer (some ⟨1,0+Int.toNat ((k:Nat):Int)*1,none⟩),.int .i64 ((k+1:Nat):Int)] ++ (J j 30 7))))))
theorem msn3p_0 (K:Array Value) (tk:Tq) (n cp:Nat) (b:Int) (m k:Nat) (Y:List Int) (j:Nat→Value):evC (yty.enf tab0 1) msn3p_h (cAt [1,1,0,1,0,0] (bdy Tryd.f36)) ⟨msnD_s K tk n cp b m k Y j,msnD_m K tk n cp b m k Y,True,[some (.bool true),some (.int .u8 (iat K (0+k))),none,some (.agg (wA .u8 m (Y ++ [(bits .xor .u8 (iat K (0+k)) b)]))),some (.int .i64 ((k+1:Nat):Int))]⟩=some (.normal,⟨msn3p_b K tk n cp b m k Y j,[(K,tk),((wA .u8 m (Y ++ [(bits .xor .u8 (iat K (0+k)) b)])),(5,(0,0)))],(((((((((((((((True∧(True∧(decide (((k:Nat):Int)<((n:Nat):Int)))=true))∧True)∧((0:Int)≤((k:Nat):Int)∧(((k:Nat):Int):Int)<((n:Nat):Int)))∧((K[(0+Int.toNat ((k:Nat):Int)*1)]? =some (.int .u8 (iat K (0+k))))∧(iat K (0+k))=(iat K (0+k))))∧True)∧True)∧True)∧True)∧True)∧True)∧True)∧((0:Int)≤((k:Nat):Int)∧(((k:Nat):Int):Int)<((m:Nat):Int)))∧((0+Int.toNat ((k:Nat):Int)*1)<(wA .u8 m Y).size∧(wA .u8 m Y).setIfInBounds (0+Int.toNat ((k:Nat):Int)*1) (.int .u8 (bits .xor .u8 (iat K (0+k)) b))=(wA .u8 m (Y ++ [(bits .xor .u8 (iat K (0+k)) b)]))))∧(True∧(IntKind.i64.wrap (((k:Nat):Int)+1))=((k+1:Nat):Int)))∧True),[]⟩):=by kernel_rfl
theorem msn3 (K:Array Value) (tk:Tq) (n cp:Nat) (b:Int) (m k:Nat) (Y:List Int) (j:Nat→Value) (hb:bytesAt K 0 n) (hn:n≤1000000000) (hm:m=n+0) (hY:Y=(maskL (bL K 0 n) b).take k) (hYl:Y.length=k) (hk:k≤n) (hlt:k<n) {c0:Prop} {ch0:List (Option Value)}:Runs Tryd.prog (cAt [1,1,0,1,0,0] (bdy Tryd.f36)) ⟨msnD_s K tk n cp b m k Y j,msnD_m K tk n cp b m k Y,c0,ch0⟩ (fun e s=>e= .normal∧∃(j:Nat→Value) (c:Prop) (ch:List (Option Value)),((Y ++ [(bits .xor .u8 (iat K (0+k)) b)])=(maskL (bL K 0 n) b).take (k+1))∧((Y ++ [(bits .xor .u8 (iat K (0+k)) b)]).length=(k+1))∧((k+1)≤n)∧s=⟨msnD_s K tk n cp b m (k+1) (Y ++ [(bits .xor .u8 (iat K (0+k)) b)]) j,msnD_m K tk n cp b m (k+1) (Y ++ [(bits .xor .u8 (iat K (0+k)) b)]),c,ch⟩) 1:=by
  have h0:(decide (((k:Nat):Int)<((n:Nat):Int)))=true:=(decide_eq_true (by omega))
  refine(runs_ev mixed _ (msn3p_0 K tk n cp b m k Y j) ⟨⟨⟨⟨⟨⟨⟨⟨⟨⟨⟨⟨⟨⟨⟨trivial,⟨trivial,h0⟩⟩,trivial⟩,(by(try simp only[Int.toNat_natCast,wA_size]);omega)⟩,⟨(by rw[Int.toNat_natCast,Nat.mul_one];exact(hb k hlt).1),rfl⟩⟩,trivial⟩,trivial⟩,trivial⟩,trivial⟩,trivial⟩,trivial⟩,trivial⟩,(by(try simp only[Int.toNat_natCast,wA_size]);omega)⟩,wA_set (by omega) (by omega)⟩,⟨trivial,(by rw[IntKind.wrap_i64];omega)⟩⟩,trivial⟩).mono ?_
  rintro e s ⟨rfl,hs⟩
  refine⟨rfl,fun q=>s.tm.getD q undef,s.c,s.ch,by rw[hY];exact mask_step hlt,by simp only[List.length_append,List.length_cons,List.length_nil];omega,by omega,?_⟩
  subst hs
  kernel_rfl
def msn4p_h (i:Nat):Hn:=⟨0,[],[],[],[]⟩
def msn4p_b (K:Array Value) (tk:Tq) (n cp:Nat) (b:Int) (m k:Nat) (Y:List Int) (j:Nat→Value):List Value:=([.slice (some ⟨0,0,none⟩) n cp,.int .u8 b,.slice none 0 0] ++ (J j 3 4 ++ ([.slice (some ⟨1,0,none⟩) m m] ++ (J j 8 8 ++ ([.slice (some ⟨0,0,none⟩) n cp,.int .i64 ((n:Nat):Int),.int .i64 ((k:Nat):Int),.bool false] ++ (J j 20 17))))))
theorem msn4p_0 (K:Array Value) (tk:Tq) (n cp:Nat) (b:Int) (m k:Nat) (Y:List Int) (j:Nat→Value):evC (yty.enf tab0 1) msn4p_h (cAt [1,1,0,1,0,0] (bdy Tryd.f36)) ⟨msnD_s K tk n cp b m k Y j,msnD_m K tk n cp b m k Y,True,[some (.bool false)]⟩=some ((.exit 0),⟨msn4p_b K tk n cp b m k Y j,[(K,tk),((wA .u8 m Y),(5,(0,0)))],(True∧(True∧(decide (((k:Nat):Int)<((n:Nat):Int)))=false)),[]⟩):=by kernel_rfl
theorem msn4 (K:Array Value) (tk:Tq) (n cp:Nat) (b:Int) (m k:Nat) (Y:List Int) (j:Nat→Value) (hb:bytesAt K 0 n) (hn:n≤1000000000) (hm:m=n+0) (hY:Y=(maskL (bL K 0 n) b).take k) (hYl:Y.length=k) (hk:k≤n) (hge:¬ k<n) {c0:Prop} {ch0:List (Option Value)}:Runs Tryd.prog (cAt [1,1,0,1,0,0] (bdy Tryd.f36)) ⟨msnD_s K tk n cp b m k Y j,msnD_m K tk n cp b m k Y,c0,ch0⟩ (fun e s=>e=(.exit 0)∧∃(j:Nat→Value) (c:Prop) (ch:List (Option Value)),(k=n)∧s=⟨msnE_s K tk n cp b m k Y j,msnE_m K tk n cp b m k Y,c,ch⟩) 1:=by
  have h0:(decide (((k:Nat):Int)<((n:Nat):Int)))=false:=(decide_eq_false (by omega))
  refine(runs_ev mixed _ (msn4p_0 K tk n cp b m k Y j) ⟨trivial,⟨trivial,h0⟩⟩).mono ?_
  rintro e s ⟨rfl,hs⟩
  refine⟨rfl,fun q=>s.tm.getD q undef,s.c,s.ch,by omega,?_⟩
  subst hs
  kernel_rfl
theorem msn5L (K:Array Value) (tk:Tq) (n:Nat) (cp:Nat) (b:Int) (m:Nat) (j:Nat→Value) (hb:bytesAt K 0 n) (hn:n≤1000000000) (hm:m=n+0) (ihY:([]:List Int)=(maskL (bL K 0 n) b).take 0) (ihYl:([]:List Int).length=0) (ihk:0≤n)  {c0:Prop} {ch0:List (Option Value)}:Runs Tryd.prog (.loop (cAt [1,1,0,1,0,0] (bdy Tryd.f36))) ⟨msnD_s K tk n cp b m 0 ([]:List Int) j,msnD_m K tk n cp b m 0 ([]:List Int),c0,ch0⟩ (fun e s=>e= .exit 0∧∃(k:Nat) (Y:List Int) (j:Nat→Value) (c:Prop) (ch:List (Option Value)),(Y=(maskL (bL K 0 n) b).take k)∧(Y.length=k)∧(k=n)∧s=⟨msnE_s K tk n cp b m k Y j,msnE_m K tk n cp b m k Y,c,ch⟩) 1:=by
  refine runs_loop (fun M s=>∃(k:Nat) (Y:List Int) (j:Nat→Value) (c:Prop) (ch:List (Option Value)),(Y=(maskL (bL K 0 n) b).take k)∧(Y.length=k)∧(k≤n)∧M=n - k∧s=⟨msnD_s K tk n cp b m k Y j,msnD_m K tk n cp b m k Y,c,ch⟩) (n - 0) ⟨0,([]:List Int),j,c0,ch0,ihY,ihYl,ihk,rfl,rfl⟩ ?_
  rintro M s ⟨k,Y,j,c,ch,hY,hYl,hk,rfl,rfl⟩
  by_cases hlt:k<n
  · skip
    refine(msn3 K tk n cp b m k Y j hb hn hm hY hYl hk hlt).mono ?_
    rintro e s ⟨rfl,j,c,ch,f3,f4,f5,rfl⟩
    exact .inl ⟨rfl,n - (k+1),by omega,⟨(k+1),(Y ++ [(bits .xor .u8 (iat K (0+k)) b)]),j,c,ch,f3,f4,f5,rfl,rfl⟩⟩
  · refine (msn4 K tk n cp b m k Y j hb hn hm hY hYl hk hlt).mono ?_
    intro e s hh
    obtain⟨rfl,j,c,ch,f5,rfl⟩:=hh
    exact .inr ⟨by simp,rfl,k,Y,j,c,ch,hY,hYl,f5,rfl⟩
theorem msn5 (K:Array Value) (tk:Tq) (n:Nat) (cp:Nat) (b:Int) (m:Nat) (j:Nat→Value) (hb:bytesAt K 0 n) (hn:n≤1000000000) (hm:m=n+0) (ihY:([]:List Int)=(maskL (bL K 0 n) b).take 0) (ihYl:([]:List Int).length=0) (ihk:0≤n)  {c0:Prop} {ch0:List (Option Value)}:Runs Tryd.prog (cAt [1,1,0,1] (bdy Tryd.f36)) ⟨msnD_s K tk n cp b m 0 ([]:List Int) j,msnD_m K tk n cp b m 0 ([]:List Int),c0,ch0⟩ (fun e s=>e= .normal∧∃(k:Nat) (Y:List Int) (j:Nat→Value) (c:Prop) (ch:List (Option Value)),(Y=(maskL (bL K 0 n) b).take k)∧(Y.length=k)∧(k=n)∧s=⟨msnE_s K tk n cp b m k Y j,msnE_m K tk n cp b m k Y,c,ch⟩) 1:=by
  rw[show(cAt [1,1,0,1] (bdy Tryd.f36))= .block 0 (.loop (cAt [1,1,0,1,0,0] (bdy Tryd.f36))) from by kernel_rfl]
  refine runs_block (msn5L K tk n cp b m j hb hn hm ihY ihYl ihk ) ?_
  rintro e s ⟨rfl,hh⟩
  exact .inl ⟨rfl,rfl,hh⟩
theorem msn6 (K:Array Value) (tk:Tq) (n cp:Nat) (b:Int) (m:Nat) (j:Nat→Value) (hb:bytesAt K 0 n) (hn:n≤1000000000) (hm:m=n+0)  {c0:Prop} {ch0:List (Option Value)}:Runs Tryd.prog (cAt [1,1,0] (bdy Tryd.f36)) ⟨msnC_s K tk n cp b m j,msnC_m K tk n cp b m,c0,ch0⟩ (fun e s=>e= .normal∧∃(k1:Nat) (Y1:List Int) (j:Nat→Value) (c:Prop) (ch:List (Option Value)),(Y1=(maskL (bL K 0 n) b).take k1)∧(Y1.length=k1)∧(k1=n)∧s=⟨msnE_s K tk n cp b m k1 Y1 j,msnE_m K tk n cp b m k1 Y1,c,ch⟩) 1:=by
  rw[show(cAt [1,1,0] (bdy Tryd.f36))=(.seq (cAt [1,1,0,0] (bdy Tryd.f36)) (cAt [1,1,0,1] (bdy Tryd.f36))) from by kernel_rfl]
  refine runs_seq (msn2 K tk n cp b m j hb hn hm ) (fun s hh=> ?_) (fun e s hne hh=>absurd hh.1 hne)
  obtain⟨_,j,c,ch,f0_3,f0_4,f0_5,rfl⟩:=hh
  refine(msn5 K tk n cp b m j hb hn hm f0_3 f0_4 f0_5 ).mono ?_
  rintro e s ⟨rfl,k1,Y1,j,c,ch,f1_3,f1_4,f1_5,rfl⟩
  exact⟨rfl,k1,Y1,j,c,ch,f1_3,f1_4,f1_5,rfl⟩
abbrev msnF_s (K:Array Value) (tk:Tq) (n cp:Nat) (b:Int) (m k:Nat) (Y:List Int) (j:Nat→Value):List Value:=(J j 0 7 ++ ([.slice (some ⟨1,0,none⟩) m m] ++ (J j 8 29)))
abbrev msnF_m (K:Array Value) (tk:Tq) (n cp:Nat) (b:Int) (m k:Nat) (Y:List Int):List Mb:= [(K,tk),((wA .u8 m (maskL (bL K 0 n) b)),(5,(0,0)))]
def msn7p_h (i:Nat):Hn:=⟨0,[],[],[],[]⟩
def msn7p_b (K:Array Value) (tk:Tq) (n cp:Nat) (b:Int) (m k:Nat) (Y:List Int) (j:Nat→Value):List Value:=([.slice (some ⟨0,0,none⟩) n cp,.int .u8 b,.slice none 0 0] ++ (J j 3 4 ++ ([.slice (some ⟨1,0,none⟩) m m] ++ (J j 8 8 ++ ([.slice (some ⟨0,0,none⟩) n cp,.int .i64 ((n:Nat):Int),.int .i64 ((k:Nat):Int)] ++ (J j 19 11 ++ ([.slice (some ⟨1,0,none⟩) m m,.slice (some ⟨0,0,none⟩) n cp,.int .i64 ((n:Nat):Int),.slice (some ⟨1,(if m=n then 0 else 0+n*1),none⟩) (m - n) (m - n),.slice none 0 0,.int .i64 0,j 36])))))))
theorem msn7p_0 (K:Array Value) (tk:Tq) (n cp:Nat) (b:Int) (m k:Nat) (Y:List Int) (j:Nat→Value):evC (yty.enf tab0 1) msn7p_h (cAt [1,1,1,0] (bdy Tryd.f36)) ⟨msnE_s K tk n cp b m k Y j,msnE_m K tk n cp b m k Y,True,[]⟩=some (.normal,⟨msn7p_b K tk n cp b m k Y j,[(K,tk),((wA .u8 m Y),(5,(0,0)))],((((((True∧True)∧True)∧True)∧(((0≤((n:Nat):Int))∧True)∧n≤m∧m≤m))∧True)∧True),[]⟩):=by kernel_rfl
theorem msn7 (K:Array Value) (tk:Tq) (n cp:Nat) (b:Int) (m k:Nat) (Y:List Int) (j:Nat→Value) (hb:bytesAt K 0 n) (hn:n≤1000000000) (hm:m=n+0) (hY:Y=(maskL (bL K 0 n) b).take k) (hYl:Y.length=k) (hk:k=n)  {c0:Prop} {ch0:List (Option Value)}:Runs Tryd.prog (cAt [1,1,1,0] (bdy Tryd.f36)) ⟨msnE_s K tk n cp b m k Y j,msnE_m K tk n cp b m k Y,c0,ch0⟩ (fun e s=>e= .normal∧∃(j:Nat→Value) (c:Prop) (ch:List (Option Value)),s=⟨msnF_s K tk n cp b m k Y j,msnF_m K tk n cp b m k Y,c,ch⟩) 1:=by
  have e:Y=maskL (bL K 0 n) b:=by rw[hY,hk,List.take_of_length_le (by rw[maskL_len,bL_len];omega)]
  refine(runs_ev mixed _ (msn7p_0 K tk n cp b m k Y j) ⟨⟨⟨⟨⟨⟨trivial,trivial⟩,trivial⟩,trivial⟩,(by refine⟨⟨?_,?_⟩,?_,?_⟩<;>first|trivial|omega)⟩,trivial⟩,trivial⟩).mono ?_
  rintro e s ⟨rfl,hs⟩
  refine⟨rfl,fun q=>s.tm.getD q undef,s.c,s.ch,?_⟩
  subst hs
  subst e
  kernel_rfl
abbrev msnG_s (K:Array Value) (tk:Tq) (n cp:Nat) (b:Int) (m k:Nat) (Y:List Int) (j:Nat→Value):List Value:=(J j 0 6 ++ ([.slice (some ⟨1,0,none⟩) m m] ++ (J j 7 30)))
abbrev msnG_m (K:Array Value) (tk:Tq) (n cp:Nat) (b:Int) (m k:Nat) (Y:List Int):List Mb:= [(K,tk),((wA .u8 m (maskL (bL K 0 n) b)),(5,(0,0)))]
def msn8p_h (i:Nat):Hn:=⟨0,[],[],[],[]⟩
def msn8p_b (K:Array Value) (tk:Tq) (n cp:Nat) (b:Int) (m k:Nat) (Y:List Int) (j:Nat→Value):List Value:=(J j 0 6 ++ ([.slice (some ⟨1,0,none⟩) m m,.slice (some ⟨1,0,none⟩) m m] ++ (J j 8 28 ++ ([.slice (some ⟨1,0,none⟩) m m]))))
theorem msn8p_0 (K:Array Value) (tk:Tq) (n cp:Nat) (b:Int) (m k:Nat) (Y:List Int) (j:Nat→Value):evC (yty.enf tab0 1) msn8p_h (cAt [1,1,1,1] (bdy Tryd.f36)) ⟨msnF_s K tk n cp b m k Y j,msnF_m K tk n cp b m k Y,True,[]⟩=some (.ret,⟨msn8p_b K tk n cp b m k Y j,[(K,tk),((wA .u8 m (maskL (bL K 0 n) b)),(5,(0,0)))],((True∧True)∧True),[]⟩):=by kernel_rfl
theorem msn8 (K:Array Value) (tk:Tq) (n cp:Nat) (b:Int) (m k:Nat) (Y:List Int) (j:Nat→Value) (hb:bytesAt K 0 n) (hn:n≤1000000000) (hm:m=n+0) (hY:Y=(maskL (bL K 0 n) b).take k) (hYl:Y.length=k) (hk:k=n)  {c0:Prop} {ch0:List (Option Value)}:Runs Tryd.prog (cAt [1,1,1,1] (bdy Tryd.f36)) ⟨msnF_s K tk n cp b m k Y j,msnF_m K tk n cp b m k Y,c0,ch0⟩ (fun e s=>e= .ret∧∃(j:Nat→Value) (c:Prop) (ch:List (Option Value)),s=⟨msnG_s K tk n cp b m k Y j,msnG_m K tk n cp b m k Y,c,ch⟩) 1:=by
  refine(runs_ev mixed _ (msn8p_0 K tk n cp b m k Y j) ⟨⟨trivial,trivial⟩,trivial⟩).mono ?_
  rintro e s ⟨rfl,hs⟩
  refine⟨rfl,fun q=>s.tm.getD q undef,s.c,s.ch,?_⟩
  subst hs
  kernel_rfl
theorem msnu (K:Array Value) (tk:Tq) (n cp:Nat) (b:Int) (j:Nat→Value) (hb:bytesAt K 0 n) (hn:n≤1000000000)  {c0:Prop} {ch0:List (Option Value)}:Runs Tryd.prog (cAt [] (bdy Tryd.f36)) ⟨msnA_s K tk n cp b j,msnA_m K tk n cp b,c0,ch0⟩ (fun e s=>e= .ret∧∃(k12:Nat) (Y12:List Int) (j:Nat→Value) (c:Prop) (ch:List (Option Value)),((n)=n+0)∧(Y12=(maskL (bL K 0 n) b).take k12)∧(Y12.length=k12)∧(k12=n)∧s=⟨msnG_s K tk n cp b (n) k12 Y12 j,msnG_m K tk n cp b (n) k12 Y12,c,ch⟩) 1:=by
  rw[show(cAt [] (bdy Tryd.f36))=(.seq (cAt [0] (bdy Tryd.f36)) (.seq (cAt [1,0] (bdy Tryd.f36)) (.seq (cAt [1,1,0] (bdy Tryd.f36)) (.seq (cAt [1,1,1,0] (bdy Tryd.f36)) (cAt [1,1,1,1] (bdy Tryd.f36)))))) from by kernel_rfl]
  refine runs_seq (msn0 K tk n cp b j hb hn ) (fun s hh=> ?_) (fun e s hne hh=>absurd hh.1 hne)
  obtain⟨_,j,c,ch,rfl⟩:=hh
  refine runs_seq (msn1 K tk n cp b j hb hn ) (fun s hh=> ?_) (fun e s hne hh=>absurd hh.1 hne)
  obtain⟨_,j,c,ch,f1_2,rfl⟩:=hh
  refine runs_seq (msn6 K tk n cp b (n) j hb hn f1_2 ) (fun s hh=> ?_) (fun e s hne hh=>absurd hh.1 hne)
  obtain⟨_,k12,Y12,j,c,ch,f2_3,f2_4,f2_5,rfl⟩:=hh
  refine runs_seq (msn7 K tk n cp b (n) k12 Y12 j hb hn f1_2 f2_3 f2_4 f2_5 ) (fun s hh=> ?_) (fun e s hne hh=>absurd hh.1 hne)
  obtain⟨_,j,c,ch,rfl⟩:=hh
  refine(msn8 K tk n cp b (n) k12 Y12 j hb hn f1_2 f2_3 f2_4 f2_5 ).mono ?_
  rintro e s ⟨rfl,j,c,ch,rfl⟩
  exact⟨rfl,k12,Y12,j,c,ch,f1_2,f2_3,f2_4,f2_5,rfl⟩
end Go.Proofs.YtmpjlammofgicaaDoor

set_option linter.unusedSimpArgs false
set_option linter.unusedVariables false
/-! mac: a key's block. -/
namespace Go.Proofs.YtmpjlammofgicaaDoor
open Go.RowKit Go.Ev
theorem bL_wA {n:Nat} {L:List Int} (h:L.length=n):bL (wA .u8 n L) 0 n=L:=by
  apply List.ext_getElem?
  intro i
  by_cases hi:i<n
  · have h1 := bL_at (a := wA .u8 n L) (p := 0) (r := n) (i := i)
    rw[if_pos hi,Nat.zero_add] at h1
    have h2:iat (wA .u8 n L) i=L.getD i 0:=by unfold iat;rw[wA_at hi]
    rw[h2,List.getD_eq_getElem?_getD,List.getD_eq_getElem?_getD] at h1
    have l1:i<(bL (wA .u8 n L) 0 n).length:=by rw[bL_len];exact hi
    rw[List.getElem?_eq_getElem l1,List.getElem?_eq_getElem (by omega)] at h1 ⊢
    exact congrArg some h1
  · rw[List.getElem?_eq_none (by rw[bL_len];omega),List.getElem?_eq_none (by omega)]
theorem bytes_wA {n:Nat} {L:List Int} (h:∀ x ∈ L,0≤x∧x<256):bytesAt (wA .u8 n L) 0 n:=wA_bytes (fun i hi=>by
  rw[List.getD_eq_getElem?_getD]
  cases e:L[i]? with
  |none=>exact⟨by decide,by decide⟩
  |some x=>exact h x (List.mem_of_getElem? e))
def key2 (N:List Int):List Int:=if N.length≤64 then N else sh2 N
abbrev bk2nA_s (g0 g1:Tq) (j:Nat→Value):List Value:=([.slice none 0 0] ++ (JU 14))
abbrev bk2nA_m (g0 g1:Tq):List Mb:= [((wA .u32 64 kL2),g0),((wA .u64 80 kL5),g1)]
abbrev bk2nB_s (g0 g1:Tq) (j:Nat→Value):List Value:=([.slice none 0 0,j 1,.pointer (some ⟨2,0,none⟩)] ++ (J j 3 12))
abbrev bk2nB_m (g0 g1:Tq):List Mb:= [((wA .u32 64 kL2),g0),((wA .u64 80 kL5),g1),((wA .u8 64 []),(29,(0,0)))]
abbrev bk2nC_s (g0 g1:Tq) (j:Nat→Value):List Value:=([.slice none 0 0,j 1,.pointer (some ⟨2,0,none⟩),.pointer (some ⟨3,0,none⟩)] ++ (J j 4 11))
abbrev bk2nC_m (g0 g1:Tq):List Mb:= [((wA .u32 64 kL2),g0),((wA .u64 80 kL5),g1),((wA .u8 64 []),(29,(0,0))),((wA .u8 64 []),(29,(0,0)))]
def bk2n0p_h (i:Nat):Hn:=⟨0,[],[],[],[]⟩
def bk2n0p_b (g0 g1:Tq) (j:Nat→Value):List Value:=([.slice none 0 0,undef,.pointer (some ⟨2,0,none⟩)] ++ (JU 12))
theorem bk2n0p_0 (g0 g1:Tq) (j:Nat→Value):evC (yty.enm tabS8 [mEnd] 2000002) bk2n0p_h (cAt [0] (bdy Tryd.f34)) ⟨bk2nA_s g0 g1 j,bk2nA_m g0 g1,True,[]⟩=some (.normal,⟨bk2n0p_b g0 g1 j,[((wA .u32 64 kL2),g0),((wA .u64 80 kL5),g1),((wA .u8 64 []),(29,(0,0)))],True,[]⟩):=by kernel_rfl
theorem bk2n0 (g0 g1:Tq) (j:Nat→Value)   {c0:Prop} {ch0:List (Option Value)}:Runs Tryd.prog (cAt [0] (bdy Tryd.f34)) ⟨bk2nA_s g0 g1 j,bk2nA_m g0 g1,c0,ch0⟩ (fun e s=>e= .normal∧∃(j:Nat→Value) (c:Prop) (ch:List (Option Value)),s=⟨bk2nB_s g0 g1 j,bk2nB_m g0 g1,c,ch⟩) 2000002:=by
  refine(runs_ev mixed _ (bk2n0p_0 g0 g1 j) trivial).mono ?_
  rintro e s ⟨rfl,hs⟩
  refine⟨rfl,fun q=>s.tm.getD q undef,s.c,s.ch,?_⟩
  subst hs
  kernel_rfl
def bk2n1p_h (i:Nat):Hn:=⟨0,[],[],[],[]⟩
def bk2n1p_b (g0 g1:Tq) (j:Nat→Value):List Value:=([.slice none 0 0,j 1,.pointer (some ⟨2,0,none⟩),.pointer (some ⟨3,0,none⟩)] ++ (J j 4 11))
theorem bk2n1p_0 (g0 g1:Tq) (j:Nat→Value):evC (yty.enm tabS8 [mEnd] 2000002) bk2n1p_h (cAt [1,0] (bdy Tryd.f34)) ⟨bk2nB_s g0 g1 j,bk2nB_m g0 g1,True,[]⟩=some (.normal,⟨bk2n1p_b g0 g1 j,[((wA .u32 64 kL2),g0),((wA .u64 80 kL5),g1),((wA .u8 64 []),(29,(0,0))),((wA .u8 64 []),(29,(0,0)))],True,[]⟩):=by kernel_rfl
theorem bk2n1 (g0 g1:Tq) (j:Nat→Value)   {c0:Prop} {ch0:List (Option Value)}:Runs Tryd.prog (cAt [1,0] (bdy Tryd.f34)) ⟨bk2nB_s g0 g1 j,bk2nB_m g0 g1,c0,ch0⟩ (fun e s=>e= .normal∧∃(j:Nat→Value) (c:Prop) (ch:List (Option Value)),s=⟨bk2nC_s g0 g1 j,bk2nC_m g0 g1,c,ch⟩) 2000002:=by
  refine(runs_ev mixed _ (bk2n1p_0 g0 g1 j) trivial).mono ?_
  rintro e s ⟨rfl,hs⟩
  refine⟨rfl,fun q=>s.tm.getD q undef,s.c,s.ch,?_⟩
  subst hs
  kernel_rfl
def bk2n2p_h (i:Nat):Hn:=⟨0,[],[],[],[]⟩
def bk2n2p_b (g0 g1:Tq) (j:Nat→Value):List Value:=([.slice none 0 0,j 1,.pointer (some ⟨2,0,none⟩),.pointer (some ⟨3,0,none⟩),j 4,.slice none 0 0,.int .i64 0,.bool false] ++ (J j 8 7))
theorem bk2n2p_0 (g0 g1:Tq) (j:Nat→Value):evC (yty.enm tabS8 [mEnd] 2000002) bk2n2p_h (cAt [1,1,0] (bdy Tryd.f34)) ⟨bk2nC_s g0 g1 j,bk2nC_m g0 g1,True,[]⟩=some (.normal,⟨bk2n2p_b g0 g1 j,[((wA .u32 64 kL2),g0),((wA .u64 80 kL5),g1),((wA .u8 64 []),(29,(0,0))),((wA .u8 64 []),(29,(0,0)))],(((True∧True)∧True)∧True),[]⟩):=by kernel_rfl
theorem bk2n2 (g0 g1:Tq) (j:Nat→Value)   {c0:Prop} {ch0:List (Option Value)}:Runs Tryd.prog (cAt [1,1,0] (bdy Tryd.f34)) ⟨bk2nC_s g0 g1 j,bk2nC_m g0 g1,c0,ch0⟩ (fun e s=>e= .normal∧∃(j:Nat→Value) (c:Prop) (ch:List (Option Value)),s=⟨bk2nC_s g0 g1 j,bk2nC_m g0 g1,c,ch⟩) 2000002:=by
  refine(runs_ev mixed _ (bk2n2p_0 g0 g1 j) ⟨⟨⟨trivial,trivial⟩,trivial⟩,trivial⟩).mono ?_
  rintro e s ⟨rfl,hs⟩
  refine⟨rfl,fun q=>s.tm.getD q undef,s.c,s.ch,?_⟩
  subst hs
  kernel_rfl
abbrev bk2nE_s (g0 g1:Tq) (j:Nat→Value):List Value:=([j 0,j 1,.pointer (some ⟨2,0,none⟩),.pointer (some ⟨3,0,none⟩)] ++ (J j 4 11))
abbrev bk2nE_m (g0 g1:Tq):List Mb:= [((wA .u32 64 kL2),g0),((wA .u64 80 kL5),g1),((wA .u8 64 []),(29,(0,0))),((wA .u8 64 ([]:List Int)),(29,(0,0)))]
def bk2n3p_h (i:Nat):Hn:=⟨0,[],[],[],[]⟩
def bk2n3p_b (g0 g1:Tq) (j:Nat→Value):List Value:=([.slice none 0 0,j 1,.pointer (some ⟨2,0,none⟩),.pointer (some ⟨3,0,none⟩)] ++ (J j 4 7 ++ ([.slice (some ⟨3,0,none⟩) 64 64,.slice none 0 0,.int .i64 0,j 14])))
theorem bk2n3p_0 (g0 g1:Tq) (j:Nat→Value):evC (yty.enm tabS8 [mEnd] 2000002) bk2n3p_h (cAt [1,1,1,0] (bdy Tryd.f34)) ⟨bk2nC_s g0 g1 j,bk2nC_m g0 g1,True,[]⟩=some (.normal,⟨bk2n3p_b g0 g1 j,[((wA .u32 64 kL2),g0),((wA .u64 80 kL5),g1),((wA .u8 64 []),(29,(0,0))),((wA .u8 64 []),(29,(0,0)))],(((True∧True)∧True)∧True),[]⟩):=by kernel_rfl
theorem bk2n3 (g0 g1:Tq) (j:Nat→Value)   {c0:Prop} {ch0:List (Option Value)}:Runs Tryd.prog (cAt [1,1,1,0] (bdy Tryd.f34)) ⟨bk2nC_s g0 g1 j,bk2nC_m g0 g1,c0,ch0⟩ (fun e s=>e= .normal∧∃(j:Nat→Value) (c:Prop) (ch:List (Option Value)),s=⟨bk2nE_s g0 g1 j,bk2nE_m g0 g1,c,ch⟩) 2000002:=by
  refine(runs_ev mixed _ (bk2n3p_0 g0 g1 j) ⟨⟨⟨trivial,trivial⟩,trivial⟩,trivial⟩).mono ?_
  rintro e s ⟨rfl,hs⟩
  refine⟨rfl,fun q=>s.tm.getD q undef,s.c,s.ch,?_⟩
  subst hs
  kernel_rfl
abbrev bk2nG_s (g0 g1:Tq) (j:Nat→Value):List Value:=([j 0,j 1,.pointer (some ⟨2,0,none⟩)] ++ (J j 3 12))
abbrev bk2nG_m (g0 g1:Tq):List Mb:= [((wA .u32 64 kL2),g0),((wA .u64 80 kL5),g1),((wA .u8 64 ([]:List Int)),(29,(0,0))),((wA .u8 64 ([]:List Int)),(29,(0,0)))]
def bk2n4p_h (i:Nat):Hn:=⟨0,[],[],[],[]⟩
def bk2n4p_b (g0 g1:Tq) (j:Nat→Value):List Value:=([j 0,j 1,.pointer (some ⟨2,0,none⟩),.pointer (some ⟨3,0,none⟩)] ++ (J j 4 10 ++ ([.agg (wA .u8 64 ([]:List Int))])))
theorem bk2n4p_0 (g0 g1:Tq) (j:Nat→Value):evC (yty.enm tabS8 [mEnd] 2000002) bk2n4p_h (cAt [1,1,1,1] (bdy Tryd.f34)) ⟨bk2nE_s g0 g1 j,bk2nE_m g0 g1,True,[]⟩=some (.ret,⟨bk2n4p_b g0 g1 j,[((wA .u32 64 kL2),g0),((wA .u64 80 kL5),g1),((wA .u8 64 ([]:List Int)),(29,(0,0))),((wA .u8 64 ([]:List Int)),(29,(0,0)))],((True∧True)∧((wA .u8 64 ([]:List Int)).all (fun v=>v.oneCell')=true)),[]⟩):=by kernel_rfl
theorem bk2n4 (g0 g1:Tq) (j:Nat→Value)   {c0:Prop} {ch0:List (Option Value)}:Runs Tryd.prog (cAt [1,1,1,1] (bdy Tryd.f34)) ⟨bk2nE_s g0 g1 j,bk2nE_m g0 g1,c0,ch0⟩ (fun e s=>e= .ret∧∃(j:Nat→Value) (c:Prop) (ch:List (Option Value)),s=⟨bk2nG_s g0 g1 j,bk2nG_m g0 g1,c,ch⟩) 2000002:=by
  refine(runs_ev mixed _ (bk2n4p_0 g0 g1 j) ⟨⟨trivial,trivial⟩,(wA_one _ _ _)⟩).mono ?_
  rintro e s ⟨rfl,hs⟩
  refine⟨rfl,fun q=>s.tm.getD q undef,s.c,s.ch,?_⟩
  subst hs
  kernel_rfl
theorem bk2nu (g0 g1:Tq) (j:Nat→Value)   {c0:Prop} {ch0:List (Option Value)}:Runs Tryd.prog (cAt [] (bdy Tryd.f34)) ⟨bk2nA_s g0 g1 j,bk2nA_m g0 g1,c0,ch0⟩ (fun e s=>e= .ret∧∃(j:Nat→Value) (c:Prop) (ch:List (Option Value)),s=⟨bk2nG_s g0 g1 j,bk2nG_m g0 g1,c,ch⟩) 2000002:=by
  rw[show(cAt [] (bdy Tryd.f34))=(.seq (cAt [0] (bdy Tryd.f34)) (.seq (cAt [1,0] (bdy Tryd.f34)) (.seq (cAt [1,1,0] (bdy Tryd.f34)) (.seq (cAt [1,1,1,0] (bdy Tryd.f34)) (cAt [1,1,1,1] (bdy Tryd.f34)))))) from by kernel_rfl]
  refine runs_seq (bk2n0 g0 g1 j  ) (fun s hh=> ?_) (fun e s hne hh=>absurd hh.1 hne)
  obtain⟨_,j,c,ch,rfl⟩:=hh
  refine runs_seq (bk2n1 g0 g1 j  ) (fun s hh=> ?_) (fun e s hne hh=>absurd hh.1 hne)
  obtain⟨_,j,c,ch,rfl⟩:=hh
  refine runs_seq (bk2n2 g0 g1 j  ) (fun s hh=> ?_) (fun e s hne hh=>absurd hh.1 hne)
  obtain⟨_,j,c,ch,rfl⟩:=hh
  refine runs_seq (bk2n3 g0 g1 j  ) (fun s hh=> ?_) (fun e s hne hh=>absurd hh.1 hne)
  obtain⟨_,j,c,ch,rfl⟩:=hh
  refine(bk2n4 g0 g1 j  ).mono ?_
  rintro e s ⟨rfl,j,c,ch,rfl⟩
  exact⟨rfl,j,c,ch,rfl⟩
abbrev bk2sA_s (g0 g1 t:Tq) (a:Array Value) (o l cp:Nat) (j:Nat→Value):List Value:=([.slice (some ⟨2,o,none⟩) l cp] ++ (JU 14))
abbrev bk2sA_m (g0 g1 t:Tq) (a:Array Value) (o l cp:Nat):List Mb:= [((wA .u32 64 kL2),g0),((wA .u64 80 kL5),g1),(a,t)]
abbrev bk2sB_s (g0 g1 t:Tq) (a:Array Value) (o l cp:Nat) (j:Nat→Value):List Value:=([.slice (some ⟨2,o,none⟩) l cp,j 1,.pointer (some ⟨3,0,none⟩)] ++ (J j 3 12))
abbrev bk2sB_m (g0 g1 t:Tq) (a:Array Value) (o l cp:Nat):List Mb:= [((wA .u32 64 kL2),g0),((wA .u64 80 kL5),g1),(a,t),((wA .u8 64 []),(29,(0,0)))]
abbrev bk2sC_s (g0 g1 t:Tq) (a:Array Value) (o l cp:Nat) (j:Nat→Value):List Value:=([.slice (some ⟨2,o,none⟩) l cp,j 1,.pointer (some ⟨3,0,none⟩),.pointer (some ⟨4,0,none⟩)] ++ (J j 4 11))
abbrev bk2sC_m (g0 g1 t:Tq) (a:Array Value) (o l cp:Nat):List Mb:= [((wA .u32 64 kL2),g0),((wA .u64 80 kL5),g1),(a,t),((wA .u8 64 []),(29,(0,0))),((wA .u8 64 []),(29,(0,0)))]
def bk2s0p_h (i:Nat):Hn:=⟨0,[],[],[],[]⟩
def bk2s0p_b (g0 g1 t:Tq) (a:Array Value) (o l cp:Nat) (j:Nat→Value):List Value:=([.slice (some ⟨2,o,none⟩) l cp,undef,.pointer (some ⟨3,0,none⟩)] ++ (JU 12))
theorem bk2s0p_0 (g0 g1 t:Tq) (a:Array Value) (o l cp:Nat) (j:Nat→Value):evC (yty.enm tabS8 [mEnd] 2000003) bk2s0p_h (cAt [0] (bdy Tryd.f34)) ⟨bk2sA_s g0 g1 t a o l cp j,bk2sA_m g0 g1 t a o l cp,True,[]⟩=some (.normal,⟨bk2s0p_b g0 g1 t a o l cp j,[((wA .u32 64 kL2),g0),((wA .u64 80 kL5),g1),(a,t),((wA .u8 64 []),(29,(0,0)))],True,[]⟩):=by kernel_rfl
theorem bk2s0 (g0 g1 t:Tq) (a:Array Value) (o l cp:Nat) (j:Nat→Value) (hb:bytesAt a o l) (hz:o+l≤a.size) (hcp:l≤cp) (hl:l≤64)  {c0:Prop} {ch0:List (Option Value)}:Runs Tryd.prog (cAt [0] (bdy Tryd.f34)) ⟨bk2sA_s g0 g1 t a o l cp j,bk2sA_m g0 g1 t a o l cp,c0,ch0⟩ (fun e s=>e= .normal∧∃(j:Nat→Value) (c:Prop) (ch:List (Option Value)),s=⟨bk2sB_s g0 g1 t a o l cp j,bk2sB_m g0 g1 t a o l cp,c,ch⟩) 2000003:=by
  refine(runs_ev mixed _ (bk2s0p_0 g0 g1 t a o l cp j) trivial).mono ?_
  rintro e s ⟨rfl,hs⟩
  refine⟨rfl,fun q=>s.tm.getD q undef,s.c,s.ch,?_⟩
  subst hs
  kernel_rfl
def bk2s1p_h (i:Nat):Hn:=⟨0,[],[],[],[]⟩
def bk2s1p_b (g0 g1 t:Tq) (a:Array Value) (o l cp:Nat) (j:Nat→Value):List Value:=([.slice (some ⟨2,o,none⟩) l cp,j 1,.pointer (some ⟨3,0,none⟩),.pointer (some ⟨4,0,none⟩)] ++ (J j 4 11))
theorem bk2s1p_0 (g0 g1 t:Tq) (a:Array Value) (o l cp:Nat) (j:Nat→Value):evC (yty.enm tabS8 [mEnd] 2000003) bk2s1p_h (cAt [1,0] (bdy Tryd.f34)) ⟨bk2sB_s g0 g1 t a o l cp j,bk2sB_m g0 g1 t a o l cp,True,[]⟩=some (.normal,⟨bk2s1p_b g0 g1 t a o l cp j,[((wA .u32 64 kL2),g0),((wA .u64 80 kL5),g1),(a,t),((wA .u8 64 []),(29,(0,0))),((wA .u8 64 []),(29,(0,0)))],True,[]⟩):=by kernel_rfl
theorem bk2s1 (g0 g1 t:Tq) (a:Array Value) (o l cp:Nat) (j:Nat→Value) (hb:bytesAt a o l) (hz:o+l≤a.size) (hcp:l≤cp) (hl:l≤64)  {c0:Prop} {ch0:List (Option Value)}:Runs Tryd.prog (cAt [1,0] (bdy Tryd.f34)) ⟨bk2sB_s g0 g1 t a o l cp j,bk2sB_m g0 g1 t a o l cp,c0,ch0⟩ (fun e s=>e= .normal∧∃(j:Nat→Value) (c:Prop) (ch:List (Option Value)),s=⟨bk2sC_s g0 g1 t a o l cp j,bk2sC_m g0 g1 t a o l cp,c,ch⟩) 2000003:=by
  refine(runs_ev mixed _ (bk2s1p_0 g0 g1 t a o l cp j) trivial).mono ?_
  rintro e s ⟨rfl,hs⟩
  refine⟨rfl,fun q=>s.tm.getD q undef,s.c,s.ch,?_⟩
  subst hs
  kernel_rfl
def bk2s2p_h (i:Nat):Hn:=⟨0,[],[],[],[]⟩
def bk2s2p_b (g0 g1 t:Tq) (a:Array Value) (o l cp:Nat) (j:Nat→Value):List Value:=([.slice (some ⟨2,o,none⟩) l cp,j 1,.pointer (some ⟨3,0,none⟩),.pointer (some ⟨4,0,none⟩),j 4,.slice (some ⟨2,o,none⟩) l cp,.int .i64 ((l:Nat):Int),.bool false] ++ (J j 8 7))
theorem bk2s2p_0 (g0 g1 t:Tq) (a:Array Value) (o l cp:Nat) (j:Nat→Value):evC (yty.enm tabS8 [mEnd] 2000003) bk2s2p_h (cAt [1,1,0] (bdy Tryd.f34)) ⟨bk2sC_s g0 g1 t a o l cp j,bk2sC_m g0 g1 t a o l cp,True,[some (.bool false)]⟩=some (.normal,⟨bk2s2p_b g0 g1 t a o l cp j,[((wA .u32 64 kL2),g0),((wA .u64 80 kL5),g1),(a,t),((wA .u8 64 []),(29,(0,0))),((wA .u8 64 []),(29,(0,0)))],(((True∧True)∧True)∧(True∧(decide (64<((l:Nat):Int)))=false)),[]⟩):=by kernel_rfl
theorem bk2s2 (g0 g1 t:Tq) (a:Array Value) (o l cp:Nat) (j:Nat→Value) (hb:bytesAt a o l) (hz:o+l≤a.size) (hcp:l≤cp) (hl:l≤64)  {c0:Prop} {ch0:List (Option Value)}:Runs Tryd.prog (cAt [1,1,0] (bdy Tryd.f34)) ⟨bk2sC_s g0 g1 t a o l cp j,bk2sC_m g0 g1 t a o l cp,c0,ch0⟩ (fun e s=>e= .normal∧∃(j:Nat→Value) (c:Prop) (ch:List (Option Value)),s=⟨bk2sC_s g0 g1 t a o l cp j,bk2sC_m g0 g1 t a o l cp,c,ch⟩) 2000003:=by
  have h0:(decide (64<((l:Nat):Int)))=false:=(decide_eq_false (by omega))
  refine(runs_ev mixed _ (bk2s2p_0 g0 g1 t a o l cp j) ⟨⟨⟨trivial,trivial⟩,trivial⟩,⟨trivial,h0⟩⟩).mono ?_
  rintro e s ⟨rfl,hs⟩
  refine⟨rfl,fun q=>s.tm.getD q undef,s.c,s.ch,?_⟩
  subst hs
  kernel_rfl
abbrev bk2sE_s (g0 g1 t:Tq) (a:Array Value) (o l cp:Nat) (j:Nat→Value):List Value:=([j 0,j 1,.pointer (some ⟨3,0,none⟩),.pointer (some ⟨4,0,none⟩)] ++ (J j 4 11))
abbrev bk2sE_m (g0 g1 t:Tq) (a:Array Value) (o l cp:Nat):List Mb:= [((wA .u32 64 kL2),g0),((wA .u64 80 kL5),g1),(a,t),((wA .u8 64 []),(29,(0,0))),((wA .u8 64 (bL a o l)),(29,(0,0)))]
def bk2s3p_h (i:Nat):Hn:=⟨0,[],[],[],[]⟩
def bk2s3p_b (g0 g1 t:Tq) (a:Array Value) (o l cp:Nat) (j:Nat→Value):List Value:=([.slice (some ⟨2,o,none⟩) l cp,j 1,.pointer (some ⟨3,0,none⟩),.pointer (some ⟨4,0,none⟩)] ++ (J j 4 7 ++ ([.slice (some ⟨4,0,none⟩) 64 64,.slice (some ⟨2,o,none⟩) l cp,.int .i64 ((Nat.min l 64:Nat):Int),j 14])))
theorem bk2s3p_0 (g0 g1 t:Tq) (a:Array Value) (o l cp:Nat) (j:Nat→Value):evC (yty.enm tabS8 [mEnd] 2000003) bk2s3p_h (cAt [1,1,1,0] (bdy Tryd.f34)) ⟨bk2sC_s g0 g1 t a o l cp j,bk2sC_m g0 g1 t a o l cp,True,[some (.agg (wA .u8 64 (bL a o l)))]⟩=some (.normal,⟨bk2s3p_b g0 g1 t a o l cp j,[((wA .u32 64 kL2),g0),((wA .u64 80 kL5),g1),(a,t),((wA .u8 64 []),(29,(0,0))),((wA .u8 64 (bL a o l)),(29,(0,0)))],(((True∧True)∧True)∧((0+Nat.min l 64≤(wA .u8 64 []).size∧o+Nat.min l 64≤a.size)∧(a.extract o (o+Nat.min l 64)).all (fun v=>v.oneCell')=true∧Calm.splice (wA .u8 64 []) 0 (a.extract o (o+Nat.min l 64))=(wA .u8 64 (bL a o l)))),[]⟩):=by kernel_rfl
theorem bk2s3 (g0 g1 t:Tq) (a:Array Value) (o l cp:Nat) (j:Nat→Value) (hb:bytesAt a o l) (hz:o+l≤a.size) (hcp:l≤cp) (hl:l≤64)  {c0:Prop} {ch0:List (Option Value)}:Runs Tryd.prog (cAt [1,1,1,0] (bdy Tryd.f34)) ⟨bk2sC_s g0 g1 t a o l cp j,bk2sC_m g0 g1 t a o l cp,c0,ch0⟩ (fun e s=>e= .normal∧∃(j:Nat→Value) (c:Prop) (ch:List (Option Value)),s=⟨bk2sE_s g0 g1 t a o l cp j,bk2sE_m g0 g1 t a o l cp,c,ch⟩) 2000003:=by
  refine(runs_ev mixed _ (bk2s3p_0 g0 g1 t a o l cp j) ⟨⟨⟨trivial,trivial⟩,trivial⟩,(by have e:Nat.min l 64=l:=Nat.min_eq_left (by omega);rw[e];exact cp_ok hb hz hl)⟩).mono ?_
  rintro e s ⟨rfl,hs⟩
  refine⟨rfl,fun q=>s.tm.getD q undef,s.c,s.ch,?_⟩
  subst hs
  kernel_rfl
abbrev bk2sG_s (g0 g1 t:Tq) (a:Array Value) (o l cp:Nat) (j:Nat→Value):List Value:=([j 0,j 1,.pointer (some ⟨3,0,none⟩)] ++ (J j 3 12))
abbrev bk2sG_m (g0 g1 t:Tq) (a:Array Value) (o l cp:Nat):List Mb:= [((wA .u32 64 kL2),g0),((wA .u64 80 kL5),g1),(a,t),((wA .u8 64 (bL a o l)),(29,(0,0))),((wA .u8 64 (bL a o l)),(29,(0,0)))]
def bk2s4p_h (i:Nat):Hn:=⟨0,[],[],[],[]⟩
def bk2s4p_b (g0 g1 t:Tq) (a:Array Value) (o l cp:Nat) (j:Nat→Value):List Value:=([j 0,j 1,.pointer (some ⟨3,0,none⟩),.pointer (some ⟨4,0,none⟩)] ++ (J j 4 10 ++ ([.agg (wA .u8 64 (bL a o l))])))
theorem bk2s4p_0 (g0 g1 t:Tq) (a:Array Value) (o l cp:Nat) (j:Nat→Value):evC (yty.enm tabS8 [mEnd] 2000003) bk2s4p_h (cAt [1,1,1,1] (bdy Tryd.f34)) ⟨bk2sE_s g0 g1 t a o l cp j,bk2sE_m g0 g1 t a o l cp,True,[]⟩=some (.ret,⟨bk2s4p_b g0 g1 t a o l cp j,[((wA .u32 64 kL2),g0),((wA .u64 80 kL5),g1),(a,t),((wA .u8 64 (bL a o l)),(29,(0,0))),((wA .u8 64 (bL a o l)),(29,(0,0)))],((True∧True)∧((wA .u8 64 (bL a o l)).all (fun v=>v.oneCell')=true)),[]⟩):=by kernel_rfl
theorem bk2s4 (g0 g1 t:Tq) (a:Array Value) (o l cp:Nat) (j:Nat→Value) (hb:bytesAt a o l) (hz:o+l≤a.size) (hcp:l≤cp) (hl:l≤64)  {c0:Prop} {ch0:List (Option Value)}:Runs Tryd.prog (cAt [1,1,1,1] (bdy Tryd.f34)) ⟨bk2sE_s g0 g1 t a o l cp j,bk2sE_m g0 g1 t a o l cp,c0,ch0⟩ (fun e s=>e= .ret∧∃(j:Nat→Value) (c:Prop) (ch:List (Option Value)),s=⟨bk2sG_s g0 g1 t a o l cp j,bk2sG_m g0 g1 t a o l cp,c,ch⟩) 2000003:=by
  refine(runs_ev mixed _ (bk2s4p_0 g0 g1 t a o l cp j) ⟨⟨trivial,trivial⟩,(wA_one _ _ _)⟩).mono ?_
  rintro e s ⟨rfl,hs⟩
  refine⟨rfl,fun q=>s.tm.getD q undef,s.c,s.ch,?_⟩
  subst hs
  kernel_rfl
theorem bk2su (g0 g1 t:Tq) (a:Array Value) (o l cp:Nat) (j:Nat→Value) (hb:bytesAt a o l) (hz:o+l≤a.size) (hcp:l≤cp) (hl:l≤64)  {c0:Prop} {ch0:List (Option Value)}:Runs Tryd.prog (cAt [] (bdy Tryd.f34)) ⟨bk2sA_s g0 g1 t a o l cp j,bk2sA_m g0 g1 t a o l cp,c0,ch0⟩ (fun e s=>e= .ret∧∃(j:Nat→Value) (c:Prop) (ch:List (Option Value)),s=⟨bk2sG_s g0 g1 t a o l cp j,bk2sG_m g0 g1 t a o l cp,c,ch⟩) 2000003:=by
  rw[show(cAt [] (bdy Tryd.f34))=(.seq (cAt [0] (bdy Tryd.f34)) (.seq (cAt [1,0] (bdy Tryd.f34)) (.seq (cAt [1,1,0] (bdy Tryd.f34)) (.seq (cAt [1,1,1,0] (bdy Tryd.f34)) (cAt [1,1,1,1] (bdy Tryd.f34)))))) from by kernel_rfl]
  refine runs_seq (bk2s0 g0 g1 t a o l cp j hb hz hcp hl ) (fun s hh=> ?_) (fun e s hne hh=>absurd hh.1 hne)
  obtain⟨_,j,c,ch,rfl⟩:=hh
  refine runs_seq (bk2s1 g0 g1 t a o l cp j hb hz hcp hl ) (fun s hh=> ?_) (fun e s hne hh=>absurd hh.1 hne)
  obtain⟨_,j,c,ch,rfl⟩:=hh
  refine runs_seq (bk2s2 g0 g1 t a o l cp j hb hz hcp hl ) (fun s hh=> ?_) (fun e s hne hh=>absurd hh.1 hne)
  obtain⟨_,j,c,ch,rfl⟩:=hh
  refine runs_seq (bk2s3 g0 g1 t a o l cp j hb hz hcp hl ) (fun s hh=> ?_) (fun e s hne hh=>absurd hh.1 hne)
  obtain⟨_,j,c,ch,rfl⟩:=hh
  refine(bk2s4 g0 g1 t a o l cp j hb hz hcp hl ).mono ?_
  rintro e s ⟨rfl,j,c,ch,rfl⟩
  exact⟨rfl,j,c,ch,rfl⟩
abbrev bk2gA_s (g0 g1 t:Tq) (a:Array Value) (o l cp:Nat) (j:Nat→Value):List Value:=([.slice (some ⟨2,o,none⟩) l cp] ++ (JU 14))
abbrev bk2gA_m (g0 g1 t:Tq) (a:Array Value) (o l cp:Nat):List Mb:= [((wA .u32 64 kL2),g0),((wA .u64 80 kL5),g1),(a,t)]
abbrev bk2gB_s (g0 g1 t:Tq) (a:Array Value) (o l cp:Nat) (j:Nat→Value):List Value:=([.slice (some ⟨2,o,none⟩) l cp,j 1,.pointer (some ⟨3,0,none⟩)] ++ (J j 3 12))
abbrev bk2gB_m (g0 g1 t:Tq) (a:Array Value) (o l cp:Nat):List Mb:= [((wA .u32 64 kL2),g0),((wA .u64 80 kL5),g1),(a,t),((wA .u8 64 []),(29,(0,0)))]
abbrev bk2gC_s (g0 g1 t:Tq) (a:Array Value) (o l cp:Nat) (j:Nat→Value):List Value:=([.slice (some ⟨2,o,none⟩) l cp,j 1,.pointer (some ⟨3,0,none⟩),.pointer (some ⟨4,0,none⟩)] ++ (J j 4 11))
abbrev bk2gC_m (g0 g1 t:Tq) (a:Array Value) (o l cp:Nat):List Mb:= [((wA .u32 64 kL2),g0),((wA .u64 80 kL5),g1),(a,t),((wA .u8 64 []),(29,(0,0))),((wA .u8 64 []),(29,(0,0)))]
def bk2g0p_h (i:Nat):Hn:=⟨0,[],[],[],[]⟩
def bk2g0p_b (g0 g1 t:Tq) (a:Array Value) (o l cp:Nat) (j:Nat→Value):List Value:=([.slice (some ⟨2,o,none⟩) l cp,undef,.pointer (some ⟨3,0,none⟩)] ++ (JU 12))
theorem bk2g0p_0 (g0 g1 t:Tq) (a:Array Value) (o l cp:Nat) (j:Nat→Value):evC (yty.enm tabS8 [mEnd] 2000003) bk2g0p_h (cAt [0] (bdy Tryd.f34)) ⟨bk2gA_s g0 g1 t a o l cp j,bk2gA_m g0 g1 t a o l cp,True,[]⟩=some (.normal,⟨bk2g0p_b g0 g1 t a o l cp j,[((wA .u32 64 kL2),g0),((wA .u64 80 kL5),g1),(a,t),((wA .u8 64 []),(29,(0,0)))],True,[]⟩):=by kernel_rfl
theorem bk2g0 (g0 g1 t:Tq) (a:Array Value) (o l cp:Nat) (j:Nat→Value) (hb:bytesAt a o l) (hz:o+l≤a.size) (hcp:l≤cp) (hl:64<l∧l≤1000000000)  {c0:Prop} {ch0:List (Option Value)}:Runs Tryd.prog (cAt [0] (bdy Tryd.f34)) ⟨bk2gA_s g0 g1 t a o l cp j,bk2gA_m g0 g1 t a o l cp,c0,ch0⟩ (fun e s=>e= .normal∧∃(j:Nat→Value) (c:Prop) (ch:List (Option Value)),s=⟨bk2gB_s g0 g1 t a o l cp j,bk2gB_m g0 g1 t a o l cp,c,ch⟩) 2000003:=by
  refine(runs_ev mixed _ (bk2g0p_0 g0 g1 t a o l cp j) trivial).mono ?_
  rintro e s ⟨rfl,hs⟩
  refine⟨rfl,fun q=>s.tm.getD q undef,s.c,s.ch,?_⟩
  subst hs
  kernel_rfl
def bk2g1p_h (i:Nat):Hn:=⟨0,[],[],[],[]⟩
def bk2g1p_b (g0 g1 t:Tq) (a:Array Value) (o l cp:Nat) (j:Nat→Value):List Value:=([.slice (some ⟨2,o,none⟩) l cp,j 1,.pointer (some ⟨3,0,none⟩),.pointer (some ⟨4,0,none⟩)] ++ (J j 4 11))
theorem bk2g1p_0 (g0 g1 t:Tq) (a:Array Value) (o l cp:Nat) (j:Nat→Value):evC (yty.enm tabS8 [mEnd] 2000003) bk2g1p_h (cAt [1,0] (bdy Tryd.f34)) ⟨bk2gB_s g0 g1 t a o l cp j,bk2gB_m g0 g1 t a o l cp,True,[]⟩=some (.normal,⟨bk2g1p_b g0 g1 t a o l cp j,[((wA .u32 64 kL2),g0),((wA .u64 80 kL5),g1),(a,t),((wA .u8 64 []),(29,(0,0))),((wA .u8 64 []),(29,(0,0)))],True,[]⟩):=by kernel_rfl
theorem bk2g1 (g0 g1 t:Tq) (a:Array Value) (o l cp:Nat) (j:Nat→Value) (hb:bytesAt a o l) (hz:o+l≤a.size) (hcp:l≤cp) (hl:64<l∧l≤1000000000)  {c0:Prop} {ch0:List (Option Value)}:Runs Tryd.prog (cAt [1,0] (bdy Tryd.f34)) ⟨bk2gB_s g0 g1 t a o l cp j,bk2gB_m g0 g1 t a o l cp,c0,ch0⟩ (fun e s=>e= .normal∧∃(j:Nat→Value) (c:Prop) (ch:List (Option Value)),s=⟨bk2gC_s g0 g1 t a o l cp j,bk2gC_m g0 g1 t a o l cp,c,ch⟩) 2000003:=by
  refine(runs_ev mixed _ (bk2g1p_0 g0 g1 t a o l cp j) trivial).mono ?_
  rintro e s ⟨rfl,hs⟩
  refine⟨rfl,fun q=>s.tm.getD q undef,s.c,s.ch,?_⟩
  subst hs
  kernel_rfl
abbrev bk2gD_s (g0 g1 t:Tq) (a:Array Value) (o l cp:Nat) (j:Nat→Value):List Value:=([.slice (some ⟨5,0,none⟩) 32 32,j 1,.pointer (some ⟨3,0,none⟩),.pointer (some ⟨4,0,none⟩)] ++ (J j 4 11))
abbrev bk2gD_m (g0 g1 t:Tq) (a:Array Value) (o l cp:Nat):List Mb:= [((wA .u32 64 kL2),g0),((wA .u64 80 kL5),g1),(a,t),((wA .u8 64 []),(29,(0,0))),((wA .u8 64 []),(29,(0,0))),((wA .u8 32 (sum2 a o l)),(25,(0,0)))]
def bk2g2p_h (i:Nat):Hn:=⟨0,[],[],[],[]⟩
def bk2g2p_b (g0 g1 t:Tq) (a:Array Value) (o l cp:Nat) (j:Nat→Value):List Value:=([.slice (some ⟨5,0,none⟩) 32 32,j 1,.pointer (some ⟨3,0,none⟩),.pointer (some ⟨4,0,none⟩),.pointer (some ⟨5,0,none⟩),.slice (some ⟨2,o,none⟩) l cp,.int .i64 ((l:Nat):Int),.bool true,.slice (some ⟨2,o,none⟩) l cp,.agg (wA .u8 32 (sum2 a o l)),.slice (some ⟨5,0,none⟩) 32 32] ++ (J j 11 4))
theorem bk2g2p_0 (g0 g1 t:Tq) (a:Array Value) (o l cp:Nat) (j:Nat→Value):evC (yty.enm tabS8 [mEnd] 2000003) bk2g2p_h (cAt [1,1,0] (bdy Tryd.f34)) ⟨bk2gC_s g0 g1 t a o l cp j,bk2gC_m g0 g1 t a o l cp,True,[some (.bool true)]⟩=some (.normal,⟨bk2g2p_b g0 g1 t a o l cp j,[((wA .u32 64 kL2),g0),((wA .u64 80 kL5),g1),(a,t),((wA .u8 64 []),(29,(0,0))),((wA .u8 64 []),(29,(0,0))),((wA .u8 32 (sum2 a o l)),(25,(0,0)))],((((((((True∧True)∧True)∧(True∧(decide (64<((l:Nat):Int)))=true))∧True)∧((wA .u32 64 kL2)=wA .u32 64 kL2∧(wA .u64 80 kL5)=wA .u64 80 kL5∧bytesAt a o l∧o+l≤a.size∧l≤cp∧l<1152921504606846976))∧((wA .u8 32 (sum2 a o l)).all (fun v=>v.oneCell')=true))∧True)∧True),[]⟩):=by kernel_rfl
theorem bk2g2 (g0 g1 t:Tq) (a:Array Value) (o l cp:Nat) (j:Nat→Value) (hb:bytesAt a o l) (hz:o+l≤a.size) (hcp:l≤cp) (hl:64<l∧l≤1000000000)  {c0:Prop} {ch0:List (Option Value)}:Runs Tryd.prog (cAt [1,1,0] (bdy Tryd.f34)) ⟨bk2gC_s g0 g1 t a o l cp j,bk2gC_m g0 g1 t a o l cp,c0,ch0⟩ (fun e s=>e= .normal∧∃(j:Nat→Value) (c:Prop) (ch:List (Option Value)),s=⟨bk2gD_s g0 g1 t a o l cp j,bk2gD_m g0 g1 t a o l cp,c,ch⟩) 2000003:=by
  have h0:(decide (64<((l:Nat):Int)))=true:=(decide_eq_true (by omega))
  refine(runs_ev mixed _ (bk2g2p_0 g0 g1 t a o l cp j) ⟨⟨⟨⟨⟨⟨⟨⟨trivial,trivial⟩,trivial⟩,⟨trivial,h0⟩⟩,trivial⟩,⟨rfl,rfl,hb,hz,hcp,by omega⟩⟩,(wA_one _ _ _)⟩,trivial⟩,trivial⟩).mono ?_
  rintro e s ⟨rfl,hs⟩
  refine⟨rfl,fun q=>s.tm.getD q undef,s.c,s.ch,?_⟩
  subst hs
  kernel_rfl
abbrev bk2gF_s (g0 g1 t:Tq) (a:Array Value) (o l cp:Nat) (j:Nat→Value):List Value:=([j 0,j 1,.pointer (some ⟨3,0,none⟩),.pointer (some ⟨4,0,none⟩)] ++ (J j 4 11))
abbrev bk2gF_m (g0 g1 t:Tq) (a:Array Value) (o l cp:Nat):List Mb:= [((wA .u32 64 kL2),g0),((wA .u64 80 kL5),g1),(a,t),((wA .u8 64 []),(29,(0,0))),((wA .u8 64 (bL (wA .u8 32 (sum2 a o l)) 0 32)),(29,(0,0))),((wA .u8 32 (sum2 a o l)),(25,(0,0)))]
def bk2g3p_h (i:Nat):Hn:=⟨0,[],[],[],[]⟩
def bk2g3p_b (g0 g1 t:Tq) (a:Array Value) (o l cp:Nat) (j:Nat→Value):List Value:=([.slice (some ⟨5,0,none⟩) 32 32,j 1,.pointer (some ⟨3,0,none⟩),.pointer (some ⟨4,0,none⟩)] ++ (J j 4 7 ++ ([.slice (some ⟨4,0,none⟩) 64 64,.slice (some ⟨5,0,none⟩) 32 32,.int .i64 ((Nat.min 32 64:Nat):Int),j 14])))
theorem bk2g3p_0 (g0 g1 t:Tq) (a:Array Value) (o l cp:Nat) (j:Nat→Value):evC (yty.enm tabS8 [mEnd] 2000003) bk2g3p_h (cAt [1,1,1,0] (bdy Tryd.f34)) ⟨bk2gD_s g0 g1 t a o l cp j,bk2gD_m g0 g1 t a o l cp,True,[some (.agg (wA .u8 64 (bL (wA .u8 32 (sum2 a o l)) 0 32)))]⟩=some (.normal,⟨bk2g3p_b g0 g1 t a o l cp j,[((wA .u32 64 kL2),g0),((wA .u64 80 kL5),g1),(a,t),((wA .u8 64 []),(29,(0,0))),((wA .u8 64 (bL (wA .u8 32 (sum2 a o l)) 0 32)),(29,(0,0))),((wA .u8 32 (sum2 a o l)),(25,(0,0)))],(((True∧True)∧True)∧((0+Nat.min 32 64≤(wA .u8 64 []).size∧0+Nat.min 32 64≤(wA .u8 32 (sum2 a o l)).size)∧((wA .u8 32 (sum2 a o l)).extract 0 (0+Nat.min 32 64)).all (fun v=>v.oneCell')=true∧Calm.splice (wA .u8 64 []) 0 ((wA .u8 32 (sum2 a o l)).extract 0 (0+Nat.min 32 64))=(wA .u8 64 (bL (wA .u8 32 (sum2 a o l)) 0 32)))),[]⟩):=by kernel_rfl
theorem bk2g3 (g0 g1 t:Tq) (a:Array Value) (o l cp:Nat) (j:Nat→Value) (hb:bytesAt a o l) (hz:o+l≤a.size) (hcp:l≤cp) (hl:64<l∧l≤1000000000)  {c0:Prop} {ch0:List (Option Value)}:Runs Tryd.prog (cAt [1,1,1,0] (bdy Tryd.f34)) ⟨bk2gD_s g0 g1 t a o l cp j,bk2gD_m g0 g1 t a o l cp,c0,ch0⟩ (fun e s=>e= .normal∧∃(j:Nat→Value) (c:Prop) (ch:List (Option Value)),s=⟨bk2gF_s g0 g1 t a o l cp j,bk2gF_m g0 g1 t a o l cp,c,ch⟩) 2000003:=by
  refine(runs_ev mixed _ (bk2g3p_0 g0 g1 t a o l cp j) ⟨⟨⟨trivial,trivial⟩,trivial⟩,cp_ok (by rw[sum2_sh hb hl.2];exact bytes_wA (sh2_bt _)) (by rw[wA_size];decide) (by decide)⟩).mono ?_
  rintro e s ⟨rfl,hs⟩
  refine⟨rfl,fun q=>s.tm.getD q undef,s.c,s.ch,?_⟩
  subst hs
  kernel_rfl
abbrev bk2gG_s (g0 g1 t:Tq) (a:Array Value) (o l cp:Nat) (j:Nat→Value):List Value:=([j 0,j 1,.pointer (some ⟨3,0,none⟩)] ++ (J j 3 12))
abbrev bk2gG_m (g0 g1 t:Tq) (a:Array Value) (o l cp:Nat):List Mb:= [((wA .u32 64 kL2),g0),((wA .u64 80 kL5),g1),(a,t),((wA .u8 64 (bL (wA .u8 32 (sum2 a o l)) 0 32)),(29,(0,0))),((wA .u8 64 (bL (wA .u8 32 (sum2 a o l)) 0 32)),(29,(0,0))),((wA .u8 32 (sum2 a o l)),(25,(0,0)))]
def bk2g4p_h (i:Nat):Hn:=⟨0,[],[],[],[]⟩
def bk2g4p_b (g0 g1 t:Tq) (a:Array Value) (o l cp:Nat) (j:Nat→Value):List Value:=([j 0,j 1,.pointer (some ⟨3,0,none⟩),.pointer (some ⟨4,0,none⟩)] ++ (J j 4 10 ++ ([.agg (wA .u8 64 (bL (wA .u8 32 (sum2 a o l)) 0 32))])))
theorem bk2g4p_0 (g0 g1 t:Tq) (a:Array Value) (o l cp:Nat) (j:Nat→Value):evC (yty.enm tabS8 [mEnd] 2000003) bk2g4p_h (cAt [1,1,1,1] (bdy Tryd.f34)) ⟨bk2gF_s g0 g1 t a o l cp j,bk2gF_m g0 g1 t a o l cp,True,[]⟩=some (.ret,⟨bk2g4p_b g0 g1 t a o l cp j,[((wA .u32 64 kL2),g0),((wA .u64 80 kL5),g1),(a,t),((wA .u8 64 (bL (wA .u8 32 (sum2 a o l)) 0 32)),(29,(0,0))),((wA .u8 64 (bL (wA .u8 32 (sum2 a o l)) 0 32)),(29,(0,0))),((wA .u8 32 (sum2 a o l)),(25,(0,0)))],((True∧True)∧((wA .u8 64 (bL (wA .u8 32 (sum2 a o l)) 0 32)).all (fun v=>v.oneCell')=true)),[]⟩):=by kernel_rfl
theorem bk2g4 (g0 g1 t:Tq) (a:Array Value) (o l cp:Nat) (j:Nat→Value) (hb:bytesAt a o l) (hz:o+l≤a.size) (hcp:l≤cp) (hl:64<l∧l≤1000000000)  {c0:Prop} {ch0:List (Option Value)}:Runs Tryd.prog (cAt [1,1,1,1] (bdy Tryd.f34)) ⟨bk2gF_s g0 g1 t a o l cp j,bk2gF_m g0 g1 t a o l cp,c0,ch0⟩ (fun e s=>e= .ret∧∃(j:Nat→Value) (c:Prop) (ch:List (Option Value)),s=⟨bk2gG_s g0 g1 t a o l cp j,bk2gG_m g0 g1 t a o l cp,c,ch⟩) 2000003:=by
  refine(runs_ev mixed _ (bk2g4p_0 g0 g1 t a o l cp j) ⟨⟨trivial,trivial⟩,(wA_one _ _ _)⟩).mono ?_
  rintro e s ⟨rfl,hs⟩
  refine⟨rfl,fun q=>s.tm.getD q undef,s.c,s.ch,?_⟩
  subst hs
  kernel_rfl
theorem bk2gu (g0 g1 t:Tq) (a:Array Value) (o l cp:Nat) (j:Nat→Value) (hb:bytesAt a o l) (hz:o+l≤a.size) (hcp:l≤cp) (hl:64<l∧l≤1000000000)  {c0:Prop} {ch0:List (Option Value)}:Runs Tryd.prog (cAt [] (bdy Tryd.f34)) ⟨bk2gA_s g0 g1 t a o l cp j,bk2gA_m g0 g1 t a o l cp,c0,ch0⟩ (fun e s=>e= .ret∧∃(j:Nat→Value) (c:Prop) (ch:List (Option Value)),s=⟨bk2gG_s g0 g1 t a o l cp j,bk2gG_m g0 g1 t a o l cp,c,ch⟩) 2000003:=by
  rw[show(cAt [] (bdy Tryd.f34))=(.seq (cAt [0] (bdy Tryd.f34)) (.seq (cAt [1,0] (bdy Tryd.f34)) (.seq (cAt [1,1,0] (bdy Tryd.f34)) (.seq (cAt [1,1,1,0] (bdy Tryd.f34)) (cAt [1,1,1,1] (bdy Tryd.f34)))))) from by kernel_rfl]
  refine runs_seq (bk2g0 g0 g1 t a o l cp j hb hz hcp hl ) (fun s hh=> ?_) (fun e s hne hh=>absurd hh.1 hne)
  obtain⟨_,j,c,ch,rfl⟩:=hh
  refine runs_seq (bk2g1 g0 g1 t a o l cp j hb hz hcp hl ) (fun s hh=> ?_) (fun e s hne hh=>absurd hh.1 hne)
  obtain⟨_,j,c,ch,rfl⟩:=hh
  refine runs_seq (bk2g2 g0 g1 t a o l cp j hb hz hcp hl ) (fun s hh=> ?_) (fun e s hne hh=>absurd hh.1 hne)
  obtain⟨_,j,c,ch,rfl⟩:=hh
  refine runs_seq (bk2g3 g0 g1 t a o l cp j hb hz hcp hl ) (fun s hh=> ?_) (fun e s hne hh=>absurd hh.1 hne)
  obtain⟨_,j,c,ch,rfl⟩:=hh
  refine(bk2g4 g0 g1 t a o l cp j hb hz hcp hl ).mono ?_
  rintro e s ⟨rfl,j,c,ch,rfl⟩
  exact⟨rfl,j,c,ch,rfl⟩
theorem Block2_c (g0 g1 t:Tq) (a:Array Value) (o l cp:Nat) (hb:bytesAt a o l) (hz:o+l≤a.size) (hcp:l≤cp) (hl:l≤1000000000):Reads Tryd.prog 34 [(wA .u32 64 kL2,g0),(wA .u64 80 kL5,g1),(a,t)] [.slice (some ⟨2,o,none⟩) l cp] (.agg (wA .u8 64 (key2 (bL a o l)))) 2:=by
  refine reads_runs (fk:=2000003) (yty.enm tabS8 [mEnd] 2000003) Tryd.func34 (c:=bdy Tryd.f34) (by kernel_rfl) ⟨len3 _ _ _,by decide⟩ (args:= [.slice (some ⟨2,o,none⟩) l cp]) (by kernel_rfl) (K:=fun e s=>e= .ret∧resS (yty.enm tabS8 [mEnd] 2000003) s Tryd.f34.results.toList=some [.agg (wA .u8 64 (key2 (bL a o l)))]) ?_ (fun e s h=>⟨h.1,_,h.2,rfl⟩)
  unfold key2
  rw[bL_len]
  by_cases h:l≤64
  · rw [if_pos h]
    refine(bk2su g0 g1 t a o l cp (fun _=>undef) hb hz hcp h).mono ?_
    rintro e s ⟨rfl,j,c,ch,rfl⟩
    exact⟨rfl,by kernel_rfl⟩
  · rw [if_neg h, ← sum2_sh hb hl, ← bL_wA (n := 32) (L := sum2 a o l) (by rw [sum2_sh hb hl]; exact sh2_len _)]
    refine(bk2gu g0 g1 t a o l cp (fun _=>undef) hb hz hcp ⟨by omega,hl⟩).mono ?_
    rintro e s ⟨rfl,j,c,ch,rfl⟩
    exact⟨rfl,by kernel_rfl⟩
theorem BlockN2_c (g0 g1:Tq):Reads Tryd.prog 34 [(wA .u32 64 kL2,g0),(wA .u64 80 kL5,g1)] [.slice none 0 0] (.agg (wA .u8 64 (key2 []))) 2:=by
  refine reads_runs (fk:=2000002) (yty.enm tabS8 [mEnd] 2000002) Tryd.func34 (c:=bdy Tryd.f34) (by kernel_rfl) ⟨len2 _ _,by decide⟩ (args:= [.slice none 0 0]) (by kernel_rfl) (K:=fun e s=>e= .ret∧resS (yty.enm tabS8 [mEnd] 2000002) s Tryd.f34.results.toList=some [.agg (wA .u8 64 (key2 []))]) ?_ (fun e s h=>⟨h.1,_,h.2,rfl⟩)
  refine(bk2nu g0 g1 (fun _=>undef)).mono ?_
  rintro e s ⟨rfl,j,c,ch,rfl⟩
  exact⟨rfl,by kernel_rfl⟩
def key5 (N:List Int):List Int:=if N.length≤128 then N else sh5 N
abbrev bk5nA_s (g0 g1:Tq) (j:Nat→Value):List Value:=([.slice none 0 0] ++ (JU 14))
abbrev bk5nA_m (g0 g1:Tq):List Mb:= [((wA .u32 64 kL2),g0),((wA .u64 80 kL5),g1)]
abbrev bk5nB_s (g0 g1:Tq) (j:Nat→Value):List Value:=([.slice none 0 0,j 1,.pointer (some ⟨2,0,none⟩)] ++ (J j 3 12))
abbrev bk5nB_m (g0 g1:Tq):List Mb:= [((wA .u32 64 kL2),g0),((wA .u64 80 kL5),g1),((wA .u8 128 []),(53,(0,0)))]
abbrev bk5nC_s (g0 g1:Tq) (j:Nat→Value):List Value:=([.slice none 0 0,j 1,.pointer (some ⟨2,0,none⟩),.pointer (some ⟨3,0,none⟩)] ++ (J j 4 11))
abbrev bk5nC_m (g0 g1:Tq):List Mb:= [((wA .u32 64 kL2),g0),((wA .u64 80 kL5),g1),((wA .u8 128 []),(53,(0,0))),((wA .u8 128 []),(53,(0,0)))]
def bk5n0p_h (i:Nat):Hn:=⟨0,[],[],[],[]⟩
def bk5n0p_b (g0 g1:Tq) (j:Nat→Value):List Value:=([.slice none 0 0,undef,.pointer (some ⟨2,0,none⟩)] ++ (JU 12))
theorem bk5n0p_0 (g0 g1:Tq) (j:Nat→Value):evC (yty.enm tabS8 [mEnd] 2000002) bk5n0p_h (cAt [0] (bdy Tryd.f35)) ⟨bk5nA_s g0 g1 j,bk5nA_m g0 g1,True,[]⟩=some (.normal,⟨bk5n0p_b g0 g1 j,[((wA .u32 64 kL2),g0),((wA .u64 80 kL5),g1),((wA .u8 128 []),(53,(0,0)))],True,[]⟩):=by kernel_rfl
theorem bk5n0 (g0 g1:Tq) (j:Nat→Value)   {c0:Prop} {ch0:List (Option Value)}:Runs Tryd.prog (cAt [0] (bdy Tryd.f35)) ⟨bk5nA_s g0 g1 j,bk5nA_m g0 g1,c0,ch0⟩ (fun e s=>e= .normal∧∃(j:Nat→Value) (c:Prop) (ch:List (Option Value)),s=⟨bk5nB_s g0 g1 j,bk5nB_m g0 g1,c,ch⟩) 2000002:=by
  refine(runs_ev mixed _ (bk5n0p_0 g0 g1 j) trivial).mono ?_
  rintro e s ⟨rfl,hs⟩
  refine⟨rfl,fun q=>s.tm.getD q undef,s.c,s.ch,?_⟩
  subst hs
  kernel_rfl
def bk5n1p_h (i:Nat):Hn:=⟨0,[],[],[],[]⟩
def bk5n1p_b (g0 g1:Tq) (j:Nat→Value):List Value:=([.slice none 0 0,j 1,.pointer (some ⟨2,0,none⟩),.pointer (some ⟨3,0,none⟩)] ++ (J j 4 11))
theorem bk5n1p_0 (g0 g1:Tq) (j:Nat→Value):evC (yty.enm tabS8 [mEnd] 2000002) bk5n1p_h (cAt [1,0] (bdy Tryd.f35)) ⟨bk5nB_s g0 g1 j,bk5nB_m g0 g1,True,[]⟩=some (.normal,⟨bk5n1p_b g0 g1 j,[((wA .u32 64 kL2),g0),((wA .u64 80 kL5),g1),((wA .u8 128 []),(53,(0,0))),((wA .u8 128 []),(53,(0,0)))],True,[]⟩):=by kernel_rfl
theorem bk5n1 (g0 g1:Tq) (j:Nat→Value)   {c0:Prop} {ch0:List (Option Value)}:Runs Tryd.prog (cAt [1,0] (bdy Tryd.f35)) ⟨bk5nB_s g0 g1 j,bk5nB_m g0 g1,c0,ch0⟩ (fun e s=>e= .normal∧∃(j:Nat→Value) (c:Prop) (ch:List (Option Value)),s=⟨bk5nC_s g0 g1 j,bk5nC_m g0 g1,c,ch⟩) 2000002:=by
  refine(runs_ev mixed _ (bk5n1p_0 g0 g1 j) trivial).mono ?_
  rintro e s ⟨rfl,hs⟩
  refine⟨rfl,fun q=>s.tm.getD q undef,s.c,s.ch,?_⟩
  subst hs
  kernel_rfl
def bk5n2p_h (i:Nat):Hn:=⟨0,[],[],[],[]⟩
def bk5n2p_b (g0 g1:Tq) (j:Nat→Value):List Value:=([.slice none 0 0,j 1,.pointer (some ⟨2,0,none⟩),.pointer (some ⟨3,0,none⟩),j 4,.slice none 0 0,.int .i64 0,.bool false] ++ (J j 8 7))
theorem bk5n2p_0 (g0 g1:Tq) (j:Nat→Value):evC (yty.enm tabS8 [mEnd] 2000002) bk5n2p_h (cAt [1,1,0] (bdy Tryd.f35)) ⟨bk5nC_s g0 g1 j,bk5nC_m g0 g1,True,[]⟩=some (.normal,⟨bk5n2p_b g0 g1 j,[((wA .u32 64 kL2),g0),((wA .u64 80 kL5),g1),((wA .u8 128 []),(53,(0,0))),((wA .u8 128 []),(53,(0,0)))],(((True∧True)∧True)∧True),[]⟩):=by kernel_rfl
theorem bk5n2 (g0 g1:Tq) (j:Nat→Value)   {c0:Prop} {ch0:List (Option Value)}:Runs Tryd.prog (cAt [1,1,0] (bdy Tryd.f35)) ⟨bk5nC_s g0 g1 j,bk5nC_m g0 g1,c0,ch0⟩ (fun e s=>e= .normal∧∃(j:Nat→Value) (c:Prop) (ch:List (Option Value)),s=⟨bk5nC_s g0 g1 j,bk5nC_m g0 g1,c,ch⟩) 2000002:=by
  refine(runs_ev mixed _ (bk5n2p_0 g0 g1 j) ⟨⟨⟨trivial,trivial⟩,trivial⟩,trivial⟩).mono ?_
  rintro e s ⟨rfl,hs⟩
  refine⟨rfl,fun q=>s.tm.getD q undef,s.c,s.ch,?_⟩
  subst hs
  kernel_rfl
abbrev bk5nE_s (g0 g1:Tq) (j:Nat→Value):List Value:=([j 0,j 1,.pointer (some ⟨2,0,none⟩),.pointer (some ⟨3,0,none⟩)] ++ (J j 4 11))
abbrev bk5nE_m (g0 g1:Tq):List Mb:= [((wA .u32 64 kL2),g0),((wA .u64 80 kL5),g1),((wA .u8 128 []),(53,(0,0))),((wA .u8 128 ([]:List Int)),(53,(0,0)))]
def bk5n3p_h (i:Nat):Hn:=⟨0,[],[],[],[]⟩
def bk5n3p_b (g0 g1:Tq) (j:Nat→Value):List Value:=([.slice none 0 0,j 1,.pointer (some ⟨2,0,none⟩),.pointer (some ⟨3,0,none⟩)] ++ (J j 4 7 ++ ([.slice (some ⟨3,0,none⟩) 128 128,.slice none 0 0,.int .i64 0,j 14])))
theorem bk5n3p_0 (g0 g1:Tq) (j:Nat→Value):evC (yty.enm tabS8 [mEnd] 2000002) bk5n3p_h (cAt [1,1,1,0] (bdy Tryd.f35)) ⟨bk5nC_s g0 g1 j,bk5nC_m g0 g1,True,[]⟩=some (.normal,⟨bk5n3p_b g0 g1 j,[((wA .u32 64 kL2),g0),((wA .u64 80 kL5),g1),((wA .u8 128 []),(53,(0,0))),((wA .u8 128 []),(53,(0,0)))],(((True∧True)∧True)∧True),[]⟩):=by kernel_rfl
theorem bk5n3 (g0 g1:Tq) (j:Nat→Value)   {c0:Prop} {ch0:List (Option Value)}:Runs Tryd.prog (cAt [1,1,1,0] (bdy Tryd.f35)) ⟨bk5nC_s g0 g1 j,bk5nC_m g0 g1,c0,ch0⟩ (fun e s=>e= .normal∧∃(j:Nat→Value) (c:Prop) (ch:List (Option Value)),s=⟨bk5nE_s g0 g1 j,bk5nE_m g0 g1,c,ch⟩) 2000002:=by
  refine(runs_ev mixed _ (bk5n3p_0 g0 g1 j) ⟨⟨⟨trivial,trivial⟩,trivial⟩,trivial⟩).mono ?_
  rintro e s ⟨rfl,hs⟩
  refine⟨rfl,fun q=>s.tm.getD q undef,s.c,s.ch,?_⟩
  subst hs
  kernel_rfl
abbrev bk5nG_s (g0 g1:Tq) (j:Nat→Value):List Value:=([j 0,j 1,.pointer (some ⟨2,0,none⟩)] ++ (J j 3 12))
abbrev bk5nG_m (g0 g1:Tq):List Mb:= [((wA .u32 64 kL2),g0),((wA .u64 80 kL5),g1),((wA .u8 128 ([]:List Int)),(53,(0,0))),((wA .u8 128 ([]:List Int)),(53,(0,0)))]
def bk5n4p_h (i:Nat):Hn:=⟨0,[],[],[],[]⟩
def bk5n4p_b (g0 g1:Tq) (j:Nat→Value):List Value:=([j 0,j 1,.pointer (some ⟨2,0,none⟩),.pointer (some ⟨3,0,none⟩)] ++ (J j 4 10 ++ ([.agg (wA .u8 128 ([]:List Int))])))
theorem bk5n4p_0 (g0 g1:Tq) (j:Nat→Value):evC (yty.enm tabS8 [mEnd] 2000002) bk5n4p_h (cAt [1,1,1,1] (bdy Tryd.f35)) ⟨bk5nE_s g0 g1 j,bk5nE_m g0 g1,True,[]⟩=some (.ret,⟨bk5n4p_b g0 g1 j,[((wA .u32 64 kL2),g0),((wA .u64 80 kL5),g1),((wA .u8 128 ([]:List Int)),(53,(0,0))),((wA .u8 128 ([]:List Int)),(53,(0,0)))],((True∧True)∧((wA .u8 128 ([]:List Int)).all (fun v=>v.oneCell')=true)),[]⟩):=by kernel_rfl
theorem bk5n4 (g0 g1:Tq) (j:Nat→Value)   {c0:Prop} {ch0:List (Option Value)}:Runs Tryd.prog (cAt [1,1,1,1] (bdy Tryd.f35)) ⟨bk5nE_s g0 g1 j,bk5nE_m g0 g1,c0,ch0⟩ (fun e s=>e= .ret∧∃(j:Nat→Value) (c:Prop) (ch:List (Option Value)),s=⟨bk5nG_s g0 g1 j,bk5nG_m g0 g1,c,ch⟩) 2000002:=by
  refine(runs_ev mixed _ (bk5n4p_0 g0 g1 j) ⟨⟨trivial,trivial⟩,(wA_one _ _ _)⟩).mono ?_
  rintro e s ⟨rfl,hs⟩
  refine⟨rfl,fun q=>s.tm.getD q undef,s.c,s.ch,?_⟩
  subst hs
  kernel_rfl
theorem bk5nu (g0 g1:Tq) (j:Nat→Value)   {c0:Prop} {ch0:List (Option Value)}:Runs Tryd.prog (cAt [] (bdy Tryd.f35)) ⟨bk5nA_s g0 g1 j,bk5nA_m g0 g1,c0,ch0⟩ (fun e s=>e= .ret∧∃(j:Nat→Value) (c:Prop) (ch:List (Option Value)),s=⟨bk5nG_s g0 g1 j,bk5nG_m g0 g1,c,ch⟩) 2000002:=by
  rw[show(cAt [] (bdy Tryd.f35))=(.seq (cAt [0] (bdy Tryd.f35)) (.seq (cAt [1,0] (bdy Tryd.f35)) (.seq (cAt [1,1,0] (bdy Tryd.f35)) (.seq (cAt [1,1,1,0] (bdy Tryd.f35)) (cAt [1,1,1,1] (bdy Tryd.f35)))))) from by kernel_rfl]
  refine runs_seq (bk5n0 g0 g1 j  ) (fun s hh=> ?_) (fun e s hne hh=>absurd hh.1 hne)
  obtain⟨_,j,c,ch,rfl⟩:=hh
  refine runs_seq (bk5n1 g0 g1 j  ) (fun s hh=> ?_) (fun e s hne hh=>absurd hh.1 hne)
  obtain⟨_,j,c,ch,rfl⟩:=hh
  refine runs_seq (bk5n2 g0 g1 j  ) (fun s hh=> ?_) (fun e s hne hh=>absurd hh.1 hne)
  obtain⟨_,j,c,ch,rfl⟩:=hh
  refine runs_seq (bk5n3 g0 g1 j  ) (fun s hh=> ?_) (fun e s hne hh=>absurd hh.1 hne)
  obtain⟨_,j,c,ch,rfl⟩:=hh
  refine(bk5n4 g0 g1 j  ).mono ?_
  rintro e s ⟨rfl,j,c,ch,rfl⟩
  exact⟨rfl,j,c,ch,rfl⟩
abbrev bk5sA_s (g0 g1 t:Tq) (a:Array Value) (o l cp:Nat) (j:Nat→Value):List Value:=([.slice (some ⟨2,o,none⟩) l cp] ++ (JU 14))
abbrev bk5sA_m (g0 g1 t:Tq) (a:Array Value) (o l cp:Nat):List Mb:= [((wA .u32 64 kL2),g0),((wA .u64 80 kL5),g1),(a,t)]
abbrev bk5sB_s (g0 g1 t:Tq) (a:Array Value) (o l cp:Nat) (j:Nat→Value):List Value:=([.slice (some ⟨2,o,none⟩) l cp,j 1,.pointer (some ⟨3,0,none⟩)] ++ (J j 3 12))
abbrev bk5sB_m (g0 g1 t:Tq) (a:Array Value) (o l cp:Nat):List Mb:= [((wA .u32 64 kL2),g0),((wA .u64 80 kL5),g1),(a,t),((wA .u8 128 []),(53,(0,0)))]
abbrev bk5sC_s (g0 g1 t:Tq) (a:Array Value) (o l cp:Nat) (j:Nat→Value):List Value:=([.slice (some ⟨2,o,none⟩) l cp,j 1,.pointer (some ⟨3,0,none⟩),.pointer (some ⟨4,0,none⟩)] ++ (J j 4 11))
abbrev bk5sC_m (g0 g1 t:Tq) (a:Array Value) (o l cp:Nat):List Mb:= [((wA .u32 64 kL2),g0),((wA .u64 80 kL5),g1),(a,t),((wA .u8 128 []),(53,(0,0))),((wA .u8 128 []),(53,(0,0)))]
def bk5s0p_h (i:Nat):Hn:=⟨0,[],[],[],[]⟩
def bk5s0p_b (g0 g1 t:Tq) (a:Array Value) (o l cp:Nat) (j:Nat→Value):List Value:=([.slice (some ⟨2,o,none⟩) l cp,undef,.pointer (some ⟨3,0,none⟩)] ++ (JU 12))
theorem bk5s0p_0 (g0 g1 t:Tq) (a:Array Value) (o l cp:Nat) (j:Nat→Value):evC (yty.enm tabS8 [mEnd] 2000003) bk5s0p_h (cAt [0] (bdy Tryd.f35)) ⟨bk5sA_s g0 g1 t a o l cp j,bk5sA_m g0 g1 t a o l cp,True,[]⟩=some (.normal,⟨bk5s0p_b g0 g1 t a o l cp j,[((wA .u32 64 kL2),g0),((wA .u64 80 kL5),g1),(a,t),((wA .u8 128 []),(53,(0,0)))],True,[]⟩):=by kernel_rfl
theorem bk5s0 (g0 g1 t:Tq) (a:Array Value) (o l cp:Nat) (j:Nat→Value) (hb:bytesAt a o l) (hz:o+l≤a.size) (hcp:l≤cp) (hl:l≤128)  {c0:Prop} {ch0:List (Option Value)}:Runs Tryd.prog (cAt [0] (bdy Tryd.f35)) ⟨bk5sA_s g0 g1 t a o l cp j,bk5sA_m g0 g1 t a o l cp,c0,ch0⟩ (fun e s=>e= .normal∧∃(j:Nat→Value) (c:Prop) (ch:List (Option Value)),s=⟨bk5sB_s g0 g1 t a o l cp j,bk5sB_m g0 g1 t a o l cp,c,ch⟩) 2000003:=by
  refine(runs_ev mixed _ (bk5s0p_0 g0 g1 t a o l cp j) trivial).mono ?_
  rintro e s ⟨rfl,hs⟩
  refine⟨rfl,fun q=>s.tm.getD q undef,s.c,s.ch,?_⟩
  subst hs
  kernel_rfl
def bk5s1p_h (i:Nat):Hn:=⟨0,[],[],[],[]⟩
def bk5s1p_b (g0 g1 t:Tq) (a:Array Value) (o l cp:Nat) (j:Nat→Value):List Value:=([.slice (some ⟨2,o,none⟩) l cp,j 1,.pointer (some ⟨3,0,none⟩),.pointer (some ⟨4,0,none⟩)] ++ (J j 4 11))
theorem bk5s1p_0 (g0 g1 t:Tq) (a:Array Value) (o l cp:Nat) (j:Nat→Value):evC (yty.enm tabS8 [mEnd] 2000003) bk5s1p_h (cAt [1,0] (bdy Tryd.f35)) ⟨bk5sB_s g0 g1 t a o l cp j,bk5sB_m g0 g1 t a o l cp,True,[]⟩=some (.normal,⟨bk5s1p_b g0 g1 t a o l cp j,[((wA .u32 64 kL2),g0),((wA .u64 80 kL5),g1),(a,t),((wA .u8 128 []),(53,(0,0))),((wA .u8 128 []),(53,(0,0)))],True,[]⟩):=by kernel_rfl
theorem bk5s1 (g0 g1 t:Tq) (a:Array Value) (o l cp:Nat) (j:Nat→Value) (hb:bytesAt a o l) (hz:o+l≤a.size) (hcp:l≤cp) (hl:l≤128)  {c0:Prop} {ch0:List (Option Value)}:Runs Tryd.prog (cAt [1,0] (bdy Tryd.f35)) ⟨bk5sB_s g0 g1 t a o l cp j,bk5sB_m g0 g1 t a o l cp,c0,ch0⟩ (fun e s=>e= .normal∧∃(j:Nat→Value) (c:Prop) (ch:List (Option Value)),s=⟨bk5sC_s g0 g1 t a o l cp j,bk5sC_m g0 g1 t a o l cp,c,ch⟩) 2000003:=by
  refine(runs_ev mixed _ (bk5s1p_0 g0 g1 t a o l cp j) trivial).mono ?_
  rintro e s ⟨rfl,hs⟩
  refine⟨rfl,fun q=>s.tm.getD q undef,s.c,s.ch,?_⟩
  subst hs
  kernel_rfl
def bk5s2p_h (i:Nat):Hn:=⟨0,[],[],[],[]⟩
def bk5s2p_b (g0 g1 t:Tq) (a:Array Value) (o l cp:Nat) (j:Nat→Value):List Value:=([.slice (some ⟨2,o,none⟩) l cp,j 1,.pointer (some ⟨3,0,none⟩),.pointer (some ⟨4,0,none⟩),j 4,.slice (some ⟨2,o,none⟩) l cp,.int .i64 ((l:Nat):Int),.bool false] ++ (J j 8 7))
theorem bk5s2p_0 (g0 g1 t:Tq) (a:Array Value) (o l cp:Nat) (j:Nat→Value):evC (yty.enm tabS8 [mEnd] 2000003) bk5s2p_h (cAt [1,1,0] (bdy Tryd.f35)) ⟨bk5sC_s g0 g1 t a o l cp j,bk5sC_m g0 g1 t a o l cp,True,[some (.bool false)]⟩=some (.normal,⟨bk5s2p_b g0 g1 t a o l cp j,[((wA .u32 64 kL2),g0),((wA .u64 80 kL5),g1),(a,t),((wA .u8 128 []),(53,(0,0))),((wA .u8 128 []),(53,(0,0)))],(((True∧True)∧True)∧(True∧(decide (128<((l:Nat):Int)))=false)),[]⟩):=by kernel_rfl
theorem bk5s2 (g0 g1 t:Tq) (a:Array Value) (o l cp:Nat) (j:Nat→Value) (hb:bytesAt a o l) (hz:o+l≤a.size) (hcp:l≤cp) (hl:l≤128)  {c0:Prop} {ch0:List (Option Value)}:Runs Tryd.prog (cAt [1,1,0] (bdy Tryd.f35)) ⟨bk5sC_s g0 g1 t a o l cp j,bk5sC_m g0 g1 t a o l cp,c0,ch0⟩ (fun e s=>e= .normal∧∃(j:Nat→Value) (c:Prop) (ch:List (Option Value)),s=⟨bk5sC_s g0 g1 t a o l cp j,bk5sC_m g0 g1 t a o l cp,c,ch⟩) 2000003:=by
  have h0:(decide (128<((l:Nat):Int)))=false:=(decide_eq_false (by omega))
  refine(runs_ev mixed _ (bk5s2p_0 g0 g1 t a o l cp j) ⟨⟨⟨trivial,trivial⟩,trivial⟩,⟨trivial,h0⟩⟩).mono ?_
  rintro e s ⟨rfl,hs⟩
  refine⟨rfl,fun q=>s.tm.getD q undef,s.c,s.ch,?_⟩
  subst hs
  kernel_rfl
abbrev bk5sE_s (g0 g1 t:Tq) (a:Array Value) (o l cp:Nat) (j:Nat→Value):List Value:=([j 0,j 1,.pointer (some ⟨3,0,none⟩),.pointer (some ⟨4,0,none⟩)] ++ (J j 4 11))
abbrev bk5sE_m (g0 g1 t:Tq) (a:Array Value) (o l cp:Nat):List Mb:= [((wA .u32 64 kL2),g0),((wA .u64 80 kL5),g1),(a,t),((wA .u8 128 []),(53,(0,0))),((wA .u8 128 (bL a o l)),(53,(0,0)))]
def bk5s3p_h (i:Nat):Hn:=⟨0,[],[],[],[]⟩
def bk5s3p_b (g0 g1 t:Tq) (a:Array Value) (o l cp:Nat) (j:Nat→Value):List Value:=([.slice (some ⟨2,o,none⟩) l cp,j 1,.pointer (some ⟨3,0,none⟩),.pointer (some ⟨4,0,none⟩)] ++ (J j 4 7 ++ ([.slice (some ⟨4,0,none⟩) 128 128,.slice (some ⟨2,o,none⟩) l cp,.int .i64 ((Nat.min l 128:Nat):Int),j 14])))
theorem bk5s3p_0 (g0 g1 t:Tq) (a:Array Value) (o l cp:Nat) (j:Nat→Value):evC (yty.enm tabS8 [mEnd] 2000003) bk5s3p_h (cAt [1,1,1,0] (bdy Tryd.f35)) ⟨bk5sC_s g0 g1 t a o l cp j,bk5sC_m g0 g1 t a o l cp,True,[some (.agg (wA .u8 128 (bL a o l)))]⟩=some (.normal,⟨bk5s3p_b g0 g1 t a o l cp j,[((wA .u32 64 kL2),g0),((wA .u64 80 kL5),g1),(a,t),((wA .u8 128 []),(53,(0,0))),((wA .u8 128 (bL a o l)),(53,(0,0)))],(((True∧True)∧True)∧((0+Nat.min l 128≤(wA .u8 128 []).size∧o+Nat.min l 128≤a.size)∧(a.extract o (o+Nat.min l 128)).all (fun v=>v.oneCell')=true∧Calm.splice (wA .u8 128 []) 0 (a.extract o (o+Nat.min l 128))=(wA .u8 128 (bL a o l)))),[]⟩):=by kernel_rfl
theorem bk5s3 (g0 g1 t:Tq) (a:Array Value) (o l cp:Nat) (j:Nat→Value) (hb:bytesAt a o l) (hz:o+l≤a.size) (hcp:l≤cp) (hl:l≤128)  {c0:Prop} {ch0:List (Option Value)}:Runs Tryd.prog (cAt [1,1,1,0] (bdy Tryd.f35)) ⟨bk5sC_s g0 g1 t a o l cp j,bk5sC_m g0 g1 t a o l cp,c0,ch0⟩ (fun e s=>e= .normal∧∃(j:Nat→Value) (c:Prop) (ch:List (Option Value)),s=⟨bk5sE_s g0 g1 t a o l cp j,bk5sE_m g0 g1 t a o l cp,c,ch⟩) 2000003:=by
  refine(runs_ev mixed _ (bk5s3p_0 g0 g1 t a o l cp j) ⟨⟨⟨trivial,trivial⟩,trivial⟩,(by have e:Nat.min l 128=l:=Nat.min_eq_left (by omega);rw[e];exact cp_ok hb hz hl)⟩).mono ?_
  rintro e s ⟨rfl,hs⟩
  refine⟨rfl,fun q=>s.tm.getD q undef,s.c,s.ch,?_⟩
  subst hs
  kernel_rfl
abbrev bk5sG_s (g0 g1 t:Tq) (a:Array Value) (o l cp:Nat) (j:Nat→Value):List Value:=([j 0,j 1,.pointer (some ⟨3,0,none⟩)] ++ (J j 3 12))
abbrev bk5sG_m (g0 g1 t:Tq) (a:Array Value) (o l cp:Nat):List Mb:= [((wA .u32 64 kL2),g0),((wA .u64 80 kL5),g1),(a,t),((wA .u8 128 (bL a o l)),(53,(0,0))),((wA .u8 128 (bL a o l)),(53,(0,0)))]
def bk5s4p_h (i:Nat):Hn:=⟨0,[],[],[],[]⟩
def bk5s4p_b (g0 g1 t:Tq) (a:Array Value) (o l cp:Nat) (j:Nat→Value):List Value:=([j 0,j 1,.pointer (some ⟨3,0,none⟩),.pointer (some ⟨4,0,none⟩)] ++ (J j 4 10 ++ ([.agg (wA .u8 128 (bL a o l))])))
theorem bk5s4p_0 (g0 g1 t:Tq) (a:Array Value) (o l cp:Nat) (j:Nat→Value):evC (yty.enm tabS8 [mEnd] 2000003) bk5s4p_h (cAt [1,1,1,1] (bdy Tryd.f35)) ⟨bk5sE_s g0 g1 t a o l cp j,bk5sE_m g0 g1 t a o l cp,True,[]⟩=some (.ret,⟨bk5s4p_b g0 g1 t a o l cp j,[((wA .u32 64 kL2),g0),((wA .u64 80 kL5),g1),(a,t),((wA .u8 128 (bL a o l)),(53,(0,0))),((wA .u8 128 (bL a o l)),(53,(0,0)))],((True∧True)∧((wA .u8 128 (bL a o l)).all (fun v=>v.oneCell')=true)),[]⟩):=by kernel_rfl
theorem bk5s4 (g0 g1 t:Tq) (a:Array Value) (o l cp:Nat) (j:Nat→Value) (hb:bytesAt a o l) (hz:o+l≤a.size) (hcp:l≤cp) (hl:l≤128)  {c0:Prop} {ch0:List (Option Value)}:Runs Tryd.prog (cAt [1,1,1,1] (bdy Tryd.f35)) ⟨bk5sE_s g0 g1 t a o l cp j,bk5sE_m g0 g1 t a o l cp,c0,ch0⟩ (fun e s=>e= .ret∧∃(j:Nat→Value) (c:Prop) (ch:List (Option Value)),s=⟨bk5sG_s g0 g1 t a o l cp j,bk5sG_m g0 g1 t a o l cp,c,ch⟩) 2000003:=by
  refine(runs_ev mixed _ (bk5s4p_0 g0 g1 t a o l cp j) ⟨⟨trivial,trivial⟩,(wA_one _ _ _)⟩).mono ?_
  rintro e s ⟨rfl,hs⟩
  refine⟨rfl,fun q=>s.tm.getD q undef,s.c,s.ch,?_⟩
  subst hs
  kernel_rfl
theorem bk5su (g0 g1 t:Tq) (a:Array Value) (o l cp:Nat) (j:Nat→Value) (hb:bytesAt a o l) (hz:o+l≤a.size) (hcp:l≤cp) (hl:l≤128)  {c0:Prop} {ch0:List (Option Value)}:Runs Tryd.prog (cAt [] (bdy Tryd.f35)) ⟨bk5sA_s g0 g1 t a o l cp j,bk5sA_m g0 g1 t a o l cp,c0,ch0⟩ (fun e s=>e= .ret∧∃(j:Nat→Value) (c:Prop) (ch:List (Option Value)),s=⟨bk5sG_s g0 g1 t a o l cp j,bk5sG_m g0 g1 t a o l cp,c,ch⟩) 2000003:=by
  rw[show(cAt [] (bdy Tryd.f35))=(.seq (cAt [0] (bdy Tryd.f35)) (.seq (cAt [1,0] (bdy Tryd.f35)) (.seq (cAt [1,1,0] (bdy Tryd.f35)) (.seq (cAt [1,1,1,0] (bdy Tryd.f35)) (cAt [1,1,1,1] (bdy Tryd.f35)))))) from by kernel_rfl]
  refine runs_seq (bk5s0 g0 g1 t a o l cp j hb hz hcp hl ) (fun s hh=> ?_) (fun e s hne hh=>absurd hh.1 hne)
  obtain⟨_,j,c,ch,rfl⟩:=hh
  refine runs_seq (bk5s1 g0 g1 t a o l cp j hb hz hcp hl ) (fun s hh=> ?_) (fun e s hne hh=>absurd hh.1 hne)
  obtain⟨_,j,c,ch,rfl⟩:=hh
  refine runs_seq (bk5s2 g0 g1 t a o l cp j hb hz hcp hl ) (fun s hh=> ?_) (fun e s hne hh=>absurd hh.1 hne)
  obtain⟨_,j,c,ch,rfl⟩:=hh
  refine runs_seq (bk5s3 g0 g1 t a o l cp j hb hz hcp hl ) (fun s hh=> ?_) (fun e s hne hh=>absurd hh.1 hne)
  obtain⟨_,j,c,ch,rfl⟩:=hh
  refine(bk5s4 g0 g1 t a o l cp j hb hz hcp hl ).mono ?_
  rintro e s ⟨rfl,j,c,ch,rfl⟩
  exact⟨rfl,j,c,ch,rfl⟩
abbrev bk5gA_s (g0 g1 t:Tq) (a:Array Value) (o l cp:Nat) (j:Nat→Value):List Value:=([.slice (some ⟨2,o,none⟩) l cp] ++ (JU 14))
abbrev bk5gA_m (g0 g1 t:Tq) (a:Array Value) (o l cp:Nat):List Mb:= [((wA .u32 64 kL2),g0),((wA .u64 80 kL5),g1),(a,t)]
abbrev bk5gB_s (g0 g1 t:Tq) (a:Array Value) (o l cp:Nat) (j:Nat→Value):List Value:=([.slice (some ⟨2,o,none⟩) l cp,j 1,.pointer (some ⟨3,0,none⟩)] ++ (J j 3 12))
abbrev bk5gB_m (g0 g1 t:Tq) (a:Array Value) (o l cp:Nat):List Mb:= [((wA .u32 64 kL2),g0),((wA .u64 80 kL5),g1),(a,t),((wA .u8 128 []),(53,(0,0)))]
abbrev bk5gC_s (g0 g1 t:Tq) (a:Array Value) (o l cp:Nat) (j:Nat→Value):List Value:=([.slice (some ⟨2,o,none⟩) l cp,j 1,.pointer (some ⟨3,0,none⟩),.pointer (some ⟨4,0,none⟩)] ++ (J j 4 11))
abbrev bk5gC_m (g0 g1 t:Tq) (a:Array Value) (o l cp:Nat):List Mb:= [((wA .u32 64 kL2),g0),((wA .u64 80 kL5),g1),(a,t),((wA .u8 128 []),(53,(0,0))),((wA .u8 128 []),(53,(0,0)))]
def bk5g0p_h (i:Nat):Hn:=⟨0,[],[],[],[]⟩
def bk5g0p_b (g0 g1 t:Tq) (a:Array Value) (o l cp:Nat) (j:Nat→Value):List Value:=([.slice (some ⟨2,o,none⟩) l cp,undef,.pointer (some ⟨3,0,none⟩)] ++ (JU 12))
theorem bk5g0p_0 (g0 g1 t:Tq) (a:Array Value) (o l cp:Nat) (j:Nat→Value):evC (yty.enm tabS8 [mEnd] 2000003) bk5g0p_h (cAt [0] (bdy Tryd.f35)) ⟨bk5gA_s g0 g1 t a o l cp j,bk5gA_m g0 g1 t a o l cp,True,[]⟩=some (.normal,⟨bk5g0p_b g0 g1 t a o l cp j,[((wA .u32 64 kL2),g0),((wA .u64 80 kL5),g1),(a,t),((wA .u8 128 []),(53,(0,0)))],True,[]⟩):=by kernel_rfl
theorem bk5g0 (g0 g1 t:Tq) (a:Array Value) (o l cp:Nat) (j:Nat→Value) (hb:bytesAt a o l) (hz:o+l≤a.size) (hcp:l≤cp) (hl:128<l∧l≤1000000000)  {c0:Prop} {ch0:List (Option Value)}:Runs Tryd.prog (cAt [0] (bdy Tryd.f35)) ⟨bk5gA_s g0 g1 t a o l cp j,bk5gA_m g0 g1 t a o l cp,c0,ch0⟩ (fun e s=>e= .normal∧∃(j:Nat→Value) (c:Prop) (ch:List (Option Value)),s=⟨bk5gB_s g0 g1 t a o l cp j,bk5gB_m g0 g1 t a o l cp,c,ch⟩) 2000003:=by
  refine(runs_ev mixed _ (bk5g0p_0 g0 g1 t a o l cp j) trivial).mono ?_
  rintro e s ⟨rfl,hs⟩
  refine⟨rfl,fun q=>s.tm.getD q undef,s.c,s.ch,?_⟩
  subst hs
  kernel_rfl
def bk5g1p_h (i:Nat):Hn:=⟨0,[],[],[],[]⟩
def bk5g1p_b (g0 g1 t:Tq) (a:Array Value) (o l cp:Nat) (j:Nat→Value):List Value:=([.slice (some ⟨2,o,none⟩) l cp,j 1,.pointer (some ⟨3,0,none⟩),.pointer (some ⟨4,0,none⟩)] ++ (J j 4 11))
theorem bk5g1p_0 (g0 g1 t:Tq) (a:Array Value) (o l cp:Nat) (j:Nat→Value):evC (yty.enm tabS8 [mEnd] 2000003) bk5g1p_h (cAt [1,0] (bdy Tryd.f35)) ⟨bk5gB_s g0 g1 t a o l cp j,bk5gB_m g0 g1 t a o l cp,True,[]⟩=some (.normal,⟨bk5g1p_b g0 g1 t a o l cp j,[((wA .u32 64 kL2),g0),((wA .u64 80 kL5),g1),(a,t),((wA .u8 128 []),(53,(0,0))),((wA .u8 128 []),(53,(0,0)))],True,[]⟩):=by kernel_rfl
theorem bk5g1 (g0 g1 t:Tq) (a:Array Value) (o l cp:Nat) (j:Nat→Value) (hb:bytesAt a o l) (hz:o+l≤a.size) (hcp:l≤cp) (hl:128<l∧l≤1000000000)  {c0:Prop} {ch0:List (Option Value)}:Runs Tryd.prog (cAt [1,0] (bdy Tryd.f35)) ⟨bk5gB_s g0 g1 t a o l cp j,bk5gB_m g0 g1 t a o l cp,c0,ch0⟩ (fun e s=>e= .normal∧∃(j:Nat→Value) (c:Prop) (ch:List (Option Value)),s=⟨bk5gC_s g0 g1 t a o l cp j,bk5gC_m g0 g1 t a o l cp,c,ch⟩) 2000003:=by
  refine(runs_ev mixed _ (bk5g1p_0 g0 g1 t a o l cp j) trivial).mono ?_
  rintro e s ⟨rfl,hs⟩
  refine⟨rfl,fun q=>s.tm.getD q undef,s.c,s.ch,?_⟩
  subst hs
  kernel_rfl
abbrev bk5gD_s (g0 g1 t:Tq) (a:Array Value) (o l cp:Nat) (j:Nat→Value):List Value:=([.slice (some ⟨5,0,none⟩) 64 64,j 1,.pointer (some ⟨3,0,none⟩),.pointer (some ⟨4,0,none⟩)] ++ (J j 4 11))
abbrev bk5gD_m (g0 g1 t:Tq) (a:Array Value) (o l cp:Nat):List Mb:= [((wA .u32 64 kL2),g0),((wA .u64 80 kL5),g1),(a,t),((wA .u8 128 []),(53,(0,0))),((wA .u8 128 []),(53,(0,0))),((wA .u8 64 (sum5 a o l)),(29,(0,0)))]
def bk5g2p_h (i:Nat):Hn:=⟨0,[],[],[],[]⟩
def bk5g2p_b (g0 g1 t:Tq) (a:Array Value) (o l cp:Nat) (j:Nat→Value):List Value:=([.slice (some ⟨5,0,none⟩) 64 64,j 1,.pointer (some ⟨3,0,none⟩),.pointer (some ⟨4,0,none⟩),.pointer (some ⟨5,0,none⟩),.slice (some ⟨2,o,none⟩) l cp,.int .i64 ((l:Nat):Int),.bool true,.slice (some ⟨2,o,none⟩) l cp,.agg (wA .u8 64 (sum5 a o l)),.slice (some ⟨5,0,none⟩) 64 64] ++ (J j 11 4))
theorem bk5g2p_0 (g0 g1 t:Tq) (a:Array Value) (o l cp:Nat) (j:Nat→Value):evC (yty.enm tabS8 [mEnd] 2000003) bk5g2p_h (cAt [1,1,0] (bdy Tryd.f35)) ⟨bk5gC_s g0 g1 t a o l cp j,bk5gC_m g0 g1 t a o l cp,True,[some (.bool true)]⟩=some (.normal,⟨bk5g2p_b g0 g1 t a o l cp j,[((wA .u32 64 kL2),g0),((wA .u64 80 kL5),g1),(a,t),((wA .u8 128 []),(53,(0,0))),((wA .u8 128 []),(53,(0,0))),((wA .u8 64 (sum5 a o l)),(29,(0,0)))],((((((((True∧True)∧True)∧(True∧(decide (128<((l:Nat):Int)))=true))∧True)∧((wA .u32 64 kL2)=wA .u32 64 kL2∧(wA .u64 80 kL5)=wA .u64 80 kL5∧bytesAt a o l∧o+l≤a.size∧l≤cp∧l<1152921504606846976))∧((wA .u8 64 (sum5 a o l)).all (fun v=>v.oneCell')=true))∧True)∧True),[]⟩):=by kernel_rfl
theorem bk5g2 (g0 g1 t:Tq) (a:Array Value) (o l cp:Nat) (j:Nat→Value) (hb:bytesAt a o l) (hz:o+l≤a.size) (hcp:l≤cp) (hl:128<l∧l≤1000000000)  {c0:Prop} {ch0:List (Option Value)}:Runs Tryd.prog (cAt [1,1,0] (bdy Tryd.f35)) ⟨bk5gC_s g0 g1 t a o l cp j,bk5gC_m g0 g1 t a o l cp,c0,ch0⟩ (fun e s=>e= .normal∧∃(j:Nat→Value) (c:Prop) (ch:List (Option Value)),s=⟨bk5gD_s g0 g1 t a o l cp j,bk5gD_m g0 g1 t a o l cp,c,ch⟩) 2000003:=by
  have h0:(decide (128<((l:Nat):Int)))=true:=(decide_eq_true (by omega))
  refine(runs_ev mixed _ (bk5g2p_0 g0 g1 t a o l cp j) ⟨⟨⟨⟨⟨⟨⟨⟨trivial,trivial⟩,trivial⟩,⟨trivial,h0⟩⟩,trivial⟩,⟨rfl,rfl,hb,hz,hcp,by omega⟩⟩,(wA_one _ _ _)⟩,trivial⟩,trivial⟩).mono ?_
  rintro e s ⟨rfl,hs⟩
  refine⟨rfl,fun q=>s.tm.getD q undef,s.c,s.ch,?_⟩
  subst hs
  kernel_rfl
abbrev bk5gF_s (g0 g1 t:Tq) (a:Array Value) (o l cp:Nat) (j:Nat→Value):List Value:=([j 0,j 1,.pointer (some ⟨3,0,none⟩),.pointer (some ⟨4,0,none⟩)] ++ (J j 4 11))
abbrev bk5gF_m (g0 g1 t:Tq) (a:Array Value) (o l cp:Nat):List Mb:= [((wA .u32 64 kL2),g0),((wA .u64 80 kL5),g1),(a,t),((wA .u8 128 []),(53,(0,0))),((wA .u8 128 (bL (wA .u8 64 (sum5 a o l)) 0 64)),(53,(0,0))),((wA .u8 64 (sum5 a o l)),(29,(0,0)))]
def bk5g3p_h (i:Nat):Hn:=⟨0,[],[],[],[]⟩
def bk5g3p_b (g0 g1 t:Tq) (a:Array Value) (o l cp:Nat) (j:Nat→Value):List Value:=([.slice (some ⟨5,0,none⟩) 64 64,j 1,.pointer (some ⟨3,0,none⟩),.pointer (some ⟨4,0,none⟩)] ++ (J j 4 7 ++ ([.slice (some ⟨4,0,none⟩) 128 128,.slice (some ⟨5,0,none⟩) 64 64,.int .i64 ((Nat.min 64 128:Nat):Int),j 14])))
theorem bk5g3p_0 (g0 g1 t:Tq) (a:Array Value) (o l cp:Nat) (j:Nat→Value):evC (yty.enm tabS8 [mEnd] 2000003) bk5g3p_h (cAt [1,1,1,0] (bdy Tryd.f35)) ⟨bk5gD_s g0 g1 t a o l cp j,bk5gD_m g0 g1 t a o l cp,True,[some (.agg (wA .u8 128 (bL (wA .u8 64 (sum5 a o l)) 0 64)))]⟩=some (.normal,⟨bk5g3p_b g0 g1 t a o l cp j,[((wA .u32 64 kL2),g0),((wA .u64 80 kL5),g1),(a,t),((wA .u8 128 []),(53,(0,0))),((wA .u8 128 (bL (wA .u8 64 (sum5 a o l)) 0 64)),(53,(0,0))),((wA .u8 64 (sum5 a o l)),(29,(0,0)))],(((True∧True)∧True)∧((0+Nat.min 64 128≤(wA .u8 128 []).size∧0+Nat.min 64 128≤(wA .u8 64 (sum5 a o l)).size)∧((wA .u8 64 (sum5 a o l)).extract 0 (0+Nat.min 64 128)).all (fun v=>v.oneCell')=true∧Calm.splice (wA .u8 128 []) 0 ((wA .u8 64 (sum5 a o l)).extract 0 (0+Nat.min 64 128))=(wA .u8 128 (bL (wA .u8 64 (sum5 a o l)) 0 64)))),[]⟩):=by kernel_rfl
theorem bk5g3 (g0 g1 t:Tq) (a:Array Value) (o l cp:Nat) (j:Nat→Value) (hb:bytesAt a o l) (hz:o+l≤a.size) (hcp:l≤cp) (hl:128<l∧l≤1000000000)  {c0:Prop} {ch0:List (Option Value)}:Runs Tryd.prog (cAt [1,1,1,0] (bdy Tryd.f35)) ⟨bk5gD_s g0 g1 t a o l cp j,bk5gD_m g0 g1 t a o l cp,c0,ch0⟩ (fun e s=>e= .normal∧∃(j:Nat→Value) (c:Prop) (ch:List (Option Value)),s=⟨bk5gF_s g0 g1 t a o l cp j,bk5gF_m g0 g1 t a o l cp,c,ch⟩) 2000003:=by
  refine(runs_ev mixed _ (bk5g3p_0 g0 g1 t a o l cp j) ⟨⟨⟨trivial,trivial⟩,trivial⟩,cp_ok (by rw[sum5_sh hb hl.2];exact bytes_wA (sh5_bt _)) (by rw[wA_size];decide) (by decide)⟩).mono ?_
  rintro e s ⟨rfl,hs⟩
  refine⟨rfl,fun q=>s.tm.getD q undef,s.c,s.ch,?_⟩
  subst hs
  kernel_rfl
abbrev bk5gG_s (g0 g1 t:Tq) (a:Array Value) (o l cp:Nat) (j:Nat→Value):List Value:=([j 0,j 1,.pointer (some ⟨3,0,none⟩)] ++ (J j 3 12))
abbrev bk5gG_m (g0 g1 t:Tq) (a:Array Value) (o l cp:Nat):List Mb:= [((wA .u32 64 kL2),g0),((wA .u64 80 kL5),g1),(a,t),((wA .u8 128 (bL (wA .u8 64 (sum5 a o l)) 0 64)),(53,(0,0))),((wA .u8 128 (bL (wA .u8 64 (sum5 a o l)) 0 64)),(53,(0,0))),((wA .u8 64 (sum5 a o l)),(29,(0,0)))]
def bk5g4p_h (i:Nat):Hn:=⟨0,[],[],[],[]⟩
def bk5g4p_b (g0 g1 t:Tq) (a:Array Value) (o l cp:Nat) (j:Nat→Value):List Value:=([j 0,j 1,.pointer (some ⟨3,0,none⟩),.pointer (some ⟨4,0,none⟩)] ++ (J j 4 10 ++ ([.agg (wA .u8 128 (bL (wA .u8 64 (sum5 a o l)) 0 64))])))
theorem bk5g4p_0 (g0 g1 t:Tq) (a:Array Value) (o l cp:Nat) (j:Nat→Value):evC (yty.enm tabS8 [mEnd] 2000003) bk5g4p_h (cAt [1,1,1,1] (bdy Tryd.f35)) ⟨bk5gF_s g0 g1 t a o l cp j,bk5gF_m g0 g1 t a o l cp,True,[]⟩=some (.ret,⟨bk5g4p_b g0 g1 t a o l cp j,[((wA .u32 64 kL2),g0),((wA .u64 80 kL5),g1),(a,t),((wA .u8 128 (bL (wA .u8 64 (sum5 a o l)) 0 64)),(53,(0,0))),((wA .u8 128 (bL (wA .u8 64 (sum5 a o l)) 0 64)),(53,(0,0))),((wA .u8 64 (sum5 a o l)),(29,(0,0)))],((True∧True)∧((wA .u8 128 (bL (wA .u8 64 (sum5 a o l)) 0 64)).all (fun v=>v.oneCell')=true)),[]⟩):=by kernel_rfl
theorem bk5g4 (g0 g1 t:Tq) (a:Array Value) (o l cp:Nat) (j:Nat→Value) (hb:bytesAt a o l) (hz:o+l≤a.size) (hcp:l≤cp) (hl:128<l∧l≤1000000000)  {c0:Prop} {ch0:List (Option Value)}:Runs Tryd.prog (cAt [1,1,1,1] (bdy Tryd.f35)) ⟨bk5gF_s g0 g1 t a o l cp j,bk5gF_m g0 g1 t a o l cp,c0,ch0⟩ (fun e s=>e= .ret∧∃(j:Nat→Value) (c:Prop) (ch:List (Option Value)),s=⟨bk5gG_s g0 g1 t a o l cp j,bk5gG_m g0 g1 t a o l cp,c,ch⟩) 2000003:=by
  refine(runs_ev mixed _ (bk5g4p_0 g0 g1 t a o l cp j) ⟨⟨trivial,trivial⟩,(wA_one _ _ _)⟩).mono ?_
  rintro e s ⟨rfl,hs⟩
  refine⟨rfl,fun q=>s.tm.getD q undef,s.c,s.ch,?_⟩
  subst hs
  kernel_rfl
theorem bk5gu (g0 g1 t:Tq) (a:Array Value) (o l cp:Nat) (j:Nat→Value) (hb:bytesAt a o l) (hz:o+l≤a.size) (hcp:l≤cp) (hl:128<l∧l≤1000000000)  {c0:Prop} {ch0:List (Option Value)}:Runs Tryd.prog (cAt [] (bdy Tryd.f35)) ⟨bk5gA_s g0 g1 t a o l cp j,bk5gA_m g0 g1 t a o l cp,c0,ch0⟩ (fun e s=>e= .ret∧∃(j:Nat→Value) (c:Prop) (ch:List (Option Value)),s=⟨bk5gG_s g0 g1 t a o l cp j,bk5gG_m g0 g1 t a o l cp,c,ch⟩) 2000003:=by
  rw[show(cAt [] (bdy Tryd.f35))=(.seq (cAt [0] (bdy Tryd.f35)) (.seq (cAt [1,0] (bdy Tryd.f35)) (.seq (cAt [1,1,0] (bdy Tryd.f35)) (.seq (cAt [1,1,1,0] (bdy Tryd.f35)) (cAt [1,1,1,1] (bdy Tryd.f35)))))) from by kernel_rfl]
  refine runs_seq (bk5g0 g0 g1 t a o l cp j hb hz hcp hl ) (fun s hh=> ?_) (fun e s hne hh=>absurd hh.1 hne)
  obtain⟨_,j,c,ch,rfl⟩:=hh
  refine runs_seq (bk5g1 g0 g1 t a o l cp j hb hz hcp hl ) (fun s hh=> ?_) (fun e s hne hh=>absurd hh.1 hne)
  obtain⟨_,j,c,ch,rfl⟩:=hh
  refine runs_seq (bk5g2 g0 g1 t a o l cp j hb hz hcp hl ) (fun s hh=> ?_) (fun e s hne hh=>absurd hh.1 hne)
  obtain⟨_,j,c,ch,rfl⟩:=hh
  refine runs_seq (bk5g3 g0 g1 t a o l cp j hb hz hcp hl ) (fun s hh=> ?_) (fun e s hne hh=>absurd hh.1 hne)
  obtain⟨_,j,c,ch,rfl⟩:=hh
  refine(bk5g4 g0 g1 t a o l cp j hb hz hcp hl ).mono ?_
  rintro e s ⟨rfl,j,c,ch,rfl⟩
  exact⟨rfl,j,c,ch,rfl⟩
theorem Block5_c (g0 g1 t:Tq) (a:Array Value) (o l cp:Nat) (hb:bytesAt a o l) (hz:o+l≤a.size) (hcp:l≤cp) (hl:l≤1000000000):Reads Tryd.prog 35 [(wA .u32 64 kL2,g0),(wA .u64 80 kL5,g1),(a,t)] [.slice (some ⟨2,o,none⟩) l cp] (.agg (wA .u8 128 (key5 (bL a o l)))) 2:=by
  refine reads_runs (fk:=2000003) (yty.enm tabS8 [mEnd] 2000003) Tryd.func35 (c:=bdy Tryd.f35) (by kernel_rfl) ⟨len3 _ _ _,by decide⟩ (args:= [.slice (some ⟨2,o,none⟩) l cp]) (by kernel_rfl) (K:=fun e s=>e= .ret∧resS (yty.enm tabS8 [mEnd] 2000003) s Tryd.f35.results.toList=some [.agg (wA .u8 128 (key5 (bL a o l)))]) ?_ (fun e s h=>⟨h.1,_,h.2,rfl⟩)
  unfold key5
  rw[bL_len]
  by_cases h:l≤128
  · rw [if_pos h]
    refine(bk5su g0 g1 t a o l cp (fun _=>undef) hb hz hcp h).mono ?_
    rintro e s ⟨rfl,j,c,ch,rfl⟩
    exact⟨rfl,by kernel_rfl⟩
  · rw [if_neg h, ← sum5_sh hb hl, ← bL_wA (n := 64) (L := sum5 a o l) (by rw [sum5_sh hb hl]; exact sh5_len _)]
    refine(bk5gu g0 g1 t a o l cp (fun _=>undef) hb hz hcp ⟨by omega,hl⟩).mono ?_
    rintro e s ⟨rfl,j,c,ch,rfl⟩
    exact⟨rfl,by kernel_rfl⟩
theorem BlockN5_c (g0 g1:Tq):Reads Tryd.prog 35 [(wA .u32 64 kL2,g0),(wA .u64 80 kL5,g1)] [.slice none 0 0] (.agg (wA .u8 128 (key5 []))) 2:=by
  refine reads_runs (fk:=2000002) (yty.enm tabS8 [mEnd] 2000002) Tryd.func35 (c:=bdy Tryd.f35) (by kernel_rfl) ⟨len2 _ _,by decide⟩ (args:= [.slice none 0 0]) (by kernel_rfl) (K:=fun e s=>e= .ret∧resS (yty.enm tabS8 [mEnd] 2000002) s Tryd.f35.results.toList=some [.agg (wA .u8 128 (key5 []))]) ?_ (fun e s h=>⟨h.1,_,h.2,rfl⟩)
  refine(bk5nu g0 g1 (fun _=>undef)).mono ?_
  rintro e s ⟨rfl,j,c,ch,rfl⟩
  exact⟨rfl,by kernel_rfl⟩
end Go.Proofs.YtmpjlammofgicaaDoor
