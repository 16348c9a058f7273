import Derived.Test.YtcfnjcacdmkgbaaDoorZMEndsSdS1
set_option linter.unusedSimpArgs false
set_option linter.unusedVariables false
/-! mac: bytes masked, and a text behind them. -/
namespace Go.Proofs.YtcfnjcacdmkgbaaDoor
open Go.RowKit Go.Ev
variable {c0:Prop} {ch0:List (Option Value)}
def maskL (K:List Int) (b:Int):List Int:=K.map fun x=>bits .xor .u8 x b
theorem maskL_len (K:List Int) (b:Int):(maskL K b).length=K.length:=by simp[maskL]
theorem made_wA (n:Nat):madeCells (#[.int .u8 0]) (n*1)=wA .u8 n []:=by
  apply Array.ext_getElem?
  intro i
  unfold madeCells wA
  simp only[Nat.mul_one]
  by_cases h:i<n
  · simp[h,Nat.mod_one]
  · simp[h]
theorem mask_step {a:Array Value} {n k:Nat} {b:Int} (h:k<n):(maskL (bL a 0 n) b).take k ++ [bits .xor .u8 (iat a (0+k)) b]=(maskL (bL a 0 n) b).take (k+1):=by
  have hl:k<(maskL (bL a 0 n) b).length:=by rw[maskL_len,bL_len];exact h
  rw[← tk_step hl]
  congr 2
  unfold maskL bL
  rw[List.getD_eq_getElem?_getD,List.getElem?_map,List.getElem?_map,List.getElem?_range h]
  rfl
theorem cp_behind {a : Array Value} {p r m : Nat} {Y : List Int} {off q : Nat} (hb : bytesAt a p r) (hz : p + r ≤ a.size) (hm : m = Y.length + r) (ho : off = Y.length ∨ r = 0 ∧ off ≤ m) (hq : q = r) : (off + q ≤ (wA .u8 m Y).size ∧ p + q ≤ a.size) ∧ (a.extract p (p + q)).all (fun v => v.oneCell') = true ∧ Calm.splice (wA .u8 m Y) off (a.extract p (p + q)) = wA .u8 m (Y ++ bL a p r) := by
  subst hq
  have hsz:(a.extract p (p+q)).size=q:=by rw[Array.size_extract];omega
  have hat:∀ j,j<q→(a.extract p (p+q))[j]? =some (.int .u8 (iat a (p+j))):=fun j hj=>by
    rw[Array.getElem?_extract_of_lt (by omega),← (hb j hj).1,Array.getElem?_eq_getElem]
  refine⟨⟨by rw[wA_size];omega,hz⟩,?_,?_⟩
  · rw [Array.all_eq_true]
    intro i hi
    have:=hat i (by omega)
    rw[Array.getElem?_eq_getElem hi] at this
    rw[Option.some.inj this];rfl
  · refine wA_ext ?_ (fun i hi => ?_)
    · unfold Calm.splice
      simp[hsz,wA_size]
      omega
    · have hm2 : (wA .u8 m Y).toList.length = m := by rw [Array.length_toList, wA_size]
      unfold Calm.splice
      rw[List.getElem?_toArray,List.getElem?_append,List.getElem?_append,List.length_append,List.length_take,hm2,Array.length_toList,hsz,getD_app]
      by_cases h:i<off
      · rw [if_pos (by omega), if_pos (by omega), List.getElem?_take_of_lt h, Array.getElem?_toList, wA_at hi]
        by_cases h2:i<Y.length
        · rw[if_pos h2]
        · rw[if_neg h2,bL_at,if_neg (by omega),List.getD_eq_getElem?_getD,List.getElem?_eq_none (by omega)];rfl
      · by_cases h3 : i < off + q
        · rw [if_pos (by omega), if_neg (by omega), Array.getElem?_toList, hat _ (by omega), if_neg (by omega), bL_at, if_pos (by omega)]
          congr 3;omega
        · rw [if_neg (by omega), List.getElem?_drop, Array.getElem?_toList, show off + q + (i - (min off m + q)) = i by omega, wA_at hi]
          by_cases h2:i<Y.length
          · rw[if_pos h2]
          · rw[if_neg h2,bL_at,if_neg (by omega),List.getD_eq_getElem?_getD,List.getElem?_eq_none (by omega)];rfl
def mssA_h (i:Nat):Hn:=⟨0,[],[],[],[]⟩
abbrev mssA_R (w:List Nat) (S:FS) (e:Exit) (K:FS→Prop):Prop:=Rn Tryd.prog (cAt w (bdy Tryd.f36)) S e K 2
structure mssA_c (K:Array Value) (tk:Tq) (n cp:Nat) (b:Int) (a:Array Value) (t:Tq) (p l c2:Nat):Prop where
  hb:bytesAt K 0 n
  hn:n≤1000000000
  ha:bytesAt a p l
  hz:p+l≤a.size
  hl:l≤1000000000
  hlc:l≤c2
variable {K:Array Value} {tk:Tq} {n cp:Nat} {b:Int} {a:Array Value} {t:Tq} {p l c2:Nat} {k_1:mssA_c K tk n cp b a t p l c2}
abbrev mssA (_:mssA_c K tk n cp b a t p l c2):FS:=⟨true,37,[(0,.slice (some ⟨0,0,none⟩) n cp),(1,.int .u8 b),(2,.slice (some ⟨1,p,none⟩) l c2)],[(K,tk),(a,t)]⟩
abbrev mssB (_:mssA_c K tk n cp b a t p l c2):FS:=⟨false,37,[(0,.slice (some ⟨0,0,none⟩) n cp),(1,.int .u8 b),(2,.slice (some ⟨1,p,none⟩) l c2)],[(K,tk),(a,t)]⟩
theorem mss0:mssA_R [0] (mssA k_1) .normal (fun z_=>z_=mssB k_1):=rn_ev (yty.enf tab0 2) mssA_h mixed _ none [] [] 1 (fun j M=>by kernel_rfl) A0 rfl
structure mssC_c (_:mssA_c K tk n cp b a t p l c2) (m:Nat):Prop where
  hm:m=n+l
variable {m:Nat} {k_2:mssC_c k_1 m}
abbrev mssC (_:mssC_c k_1 m):FS:=⟨false,37,[(0,.slice (some ⟨0,0,none⟩) n cp),(1,.int .u8 b),(2,.slice (some ⟨1,p,none⟩) l c2),(7,.slice (some ⟨2,0,none⟩) m m)],[(K,tk),(a,t),((wA .u8 m []),(5,(0,0)))]⟩
theorem mss1:mssA_R [1,0] (mssB k_1) .normal (fun z_=>∃(k_2:mssC_c k_1 (n+l)),z_=mssC k_2):=by
  have⟨hb,hn,ha,hz,hl,hlc⟩:=id k_1
  exact rn_ev (yty.enf tab0 2) mssA_h mixed (⟨false,37,[(0,.slice (some ⟨0,0,none⟩) n cp),(1,.int .u8 b),(2,.slice (some ⟨1,p,none⟩) l c2),(7,.slice (some ⟨2,0,none⟩) (n+l) (n+l))],[(K,tk),(a,t),((madeCells (#[.int .u8 0]) ((n+l)*1)),(5,(0,0)))]⟩) none [some (.int .i64 ((n+l:Nat):Int))] [(9,(IntKind.i64.wrap ((n:Int)+(l:Int)))=((n+l:Nat):Int)),(0,(0≤((n+l:Nat):Int)∧((n+l:Nat):Int)=((n+l:Nat):Int)∧1*(n+l)≤281474976710656∧(n+l)≤9223372036854775807))] 1 (fun j M=>by kernel_rfl) (A1 (wi64 (by omega)) (A1 ⟨by omega,rfl,by omega,by omega⟩ A0)) ⟨⟨rfl⟩,(by
    delta mssC
    rw[made_wA]
    try kernel_rfl)⟩
structure mssD_c (_:mssC_c k_1 m) (k:Nat) (Y:List Int):Prop where
  hY:Y=(maskL (bL K 0 n) b).take k
  hYl:Y.length=k
  hk:k≤n
variable {k:Nat} {Y:List Int} {k_3:mssD_c k_2 k Y}
abbrev mssD (_:mssD_c k_2 k Y):FS:=⟨false,37,[(0,.slice (some ⟨0,0,none⟩) n cp),(1,.int .u8 b),(2,.slice (some ⟨1,p,none⟩) l c2),(7,.slice (some ⟨2,0,none⟩) m m),(16,.slice (some ⟨0,0,none⟩) n cp),(17,.int .i64 (n:Int)),(18,.int .i64 (k:Int))],[(K,tk),(a,t),((wA .u8 m Y),(5,(0,0)))]⟩
theorem mss2:mssA_R [1,1,0,0] (mssC k_2) .normal (fun z_=>∃(k_3:mssD_c k_2 0 ([]:List Int)),z_=mssD k_3):=rn_ev (yty.enf tab0 2) mssA_h mixed _ none [] [] 3 (fun j M=>by kernel_rfl) A0 ⟨⟨rfl,rfl,Nat.zero_le _⟩,rfl⟩
structure mssE_c (_:mssC_c k_1 m) (k:Nat) (Y:List Int):Prop where
  hY:Y=(maskL (bL K 0 n) b).take k
  hYl:Y.length=k
  hk:k=n
variable {k_4:mssE_c k_2 k Y}
abbrev mssE (_:mssE_c k_2 k Y):FS:=⟨false,37,[(0,.slice (some ⟨0,0,none⟩) n cp),(1,.int .u8 b),(2,.slice (some ⟨1,p,none⟩) l c2),(7,.slice (some ⟨2,0,none⟩) m m),(16,.slice (some ⟨0,0,none⟩) n cp),(17,.int .i64 (n:Int)),(18,.int .i64 (k:Int))],[(K,tk),(a,t),((wA .u8 m Y),(5,(0,0)))]⟩
theorem mss3 (hlt:k<n):mssA_R [1,1,0,1,0,0] (mssD k_3) .normal (fun z_=>∃(k_3:mssD_c k_2 (k+1) (Y ++ [(bits .xor .u8 (iat K (0+k)) b)])),z_=mssD k_3):=by
  have⟨hb,hn,ha,hz,hl,hlc⟩:=id k_1
  have⟨hm⟩:=id k_2
  have⟨hY,hYl,hk⟩:=id k_3
  exact rn_ev (yty.enf tab0 2) mssA_h mixed _ none [some (.bool true),some (.int .u8 (iat K (0+k))),none,some (.agg (wA .u8 m (Y ++ [(bits .xor .u8 (iat K (0+k)) b)]))),some (.int .i64 ((k+1:Nat):Int))] [(1,(decide ((k:Int)<(n:Int)))=true),(2,((0:Int)≤(k:Int)∧((k:Int):Int)<(n:Int))),(0,((K[(0+Int.toNat (k:Int)*1)]? =some (.int .u8 (iat K (0+k))))∧(iat K (0+k))=(iat K (0+k)))),(14,((0:Int)≤(k:Int)∧((k:Int):Int)<(m:Int))),(0,((0+Int.toNat (k:Int)*1)<(wA .u8 m Y).size∧(wA .u8 m Y).setIfInBounds (0+Int.toNat (k:Int)*1) (.int .u8 (bits .xor .u8 (iat K (0+k)) b))=(wA .u8 m (Y ++ [(bits .xor .u8 (iat K (0+k)) b)])))),(1,(IntKind.i64.wrap ((k:Int)+1))=((k+1:Nat):Int))] 1 (fun j M=>by kernel_rfl) (A1 (decide_eq_true (by omega)) (A1 (by(try simp only[Int.toNat_natCast,wA_size]);omega) (A1 ⟨(by rw[Int.toNat_natCast,Nat.mul_one];exact(hb k hlt).1),rfl⟩ (A1 (by(try simp only[Int.toNat_natCast,wA_size]);omega) (A1 (wA_set (by omega) (by omega)) (A1 (wi64 (by omega)) A0)))))) ⟨⟨by rw[hY];exact mask_step hlt,by simp only[List.length_append,List.length_cons,List.length_nil];omega,by omega⟩,rfl⟩
theorem mss4 (hge:¬ k<n):mssA_R [1,1,0,1,0,0] (mssD k_3) (.exit 0) (fun z_=>∃(k_4:mssE_c k_2 k Y),z_=mssE k_4):=by
  have⟨hb,hn,ha,hz,hl,hlc⟩:=id k_1
  have⟨hm⟩:=id k_2
  have⟨hY,hYl,hk⟩:=id k_3
  exact rn_ev (yty.enf tab0 2) mssA_h mixed _ none [some (.bool false)] [(1,(decide ((k:Int)<(n:Int)))=false)] 0 (fun j M=>by kernel_rfl) (A1 (decide_eq_false (by omega)) A0) ⟨⟨hY,hYl,by omega⟩,rfl⟩
theorem mss5:mssA_R [1,1,0,1] (mssD k_3) .normal (fun z_=>∃(k:Nat) (Y:List Int) (k_4:mssE_c k_2 k Y),z_=mssE k_4):=by
  refine rn_loop (k:=0) (w:= [1,1,0,1]) (by kernel_rfl) (fun n_ z_=>∃(k:Nat) (Y:List Int) (k_3:mssD_c k_2 k Y),n_=n - k∧z_=mssD k_3) _ ⟨_,_,k_3,rfl,rfl⟩ ?_
  rintro n_ _ ⟨k,Y,k_3,hn_,rfl⟩
  have⟨hb,hn,ha,hz,hl,hlc⟩:=k_1
  have⟨hm⟩:=k_2
  have⟨hY,hYl,hk⟩:=k_3
  by_cases hlt:k<n
  · exact(mss3 hlt).x fun _ ⟨k_3,e_⟩=> .inl ⟨rfl,n - (k+1),by omega,⟨_,_,k_3,rfl,e_⟩⟩
  · exact(mss4 hlt).x fun _ ⟨k_4,e_⟩=> .inr ⟨rfl,⟨k,Y,k_4,e_⟩⟩
theorem mss6:mssA_R [1,1,0] (mssC k_2) .normal (fun z_=>∃(k1:Nat) (Y1:List Int) (k_4:mssE_c k_2 k1 Y1),z_=mssE k_4):=by
  refine rn_seq (w:= [1,1,0]) (by kernel_rfl) mss2 ?_
  rintro _ ⟨k_3,rfl⟩
  exact mss5
abbrev mssF (_:mssE_c k_2 k Y):FS:=⟨false,37,[(7,.slice (some ⟨2,0,none⟩) m m)],[(K,tk),(a,t),((wA .u8 m (maskL (bL K 0 n) b ++ bL a p l)),(5,(0,0)))]⟩
theorem mss7:mssA_R [1,1,1,0] (mssE k_4) .normal (fun z_=>z_=mssF k_4):=by
  have⟨hb,hn,ha,hz,hl,hlc⟩:=id k_1
  have⟨hm⟩:=id k_2
  have⟨hY,hYl,hk⟩:=id k_4
  have e:Y=maskL (bL K 0 n) b:=by rw[hY,hk,List.take_of_length_le (by rw[maskL_len,bL_len];omega)]
  exact rn_ev (yty.enf tab0 2) mssA_h mixed (⟨false,37,[(7,.slice (some ⟨2,0,none⟩) m m)],[(K,tk),(a,t),((wA .u8 m (Y ++ bL a p l)),(5,(0,0)))]⟩) none [some (.agg (wA .u8 m (Y ++ bL a p l)))] [(6,(((0≤(n:Int))∧True)∧n≤m∧m≤m)),(2,(((if m=n then 0 else 0+n*1)+Nat.min l (m - n)≤(wA .u8 m Y).size∧p+Nat.min l (m - n)≤a.size)∧(a.extract p (p+Nat.min l (m - n))).all (fun v=>v.oneCell')=true∧Calm.splice (wA .u8 m Y) (if m=n then 0 else 0+n*1) (a.extract p (p+Nat.min l (m - n)))=(wA .u8 m (Y ++ bL a p l))))] 0 (fun j M=>by kernel_rfl) (A1 (by refine⟨⟨?_,?_⟩,?_,?_⟩<;>first|trivial|omega) (A1 (cp_behind ha hz (by omega) (by by_cases h:m=n;exact .inr ⟨by omega,by rw[if_pos h];omega⟩;exact .inl (by rw[if_neg h];omega)) (Nat.min_eq_left (by omega))) A0)) (by
    delta mssF
    rw[e]
    try kernel_rfl)
abbrev mssG (_:mssE_c k_2 k Y):FS:=⟨false,37,[(6,.slice (some ⟨2,0,none⟩) m m)],[(K,tk),(a,t),((wA .u8 m (maskL (bL K 0 n) b ++ bL a p l)),(5,(0,0)))]⟩
theorem mss8:mssA_R [1,1,1,1] (mssF k_4) .ret (fun z_=>z_=mssG k_4):=rn_ev (yty.enf tab0 2) mssA_h mixed _ none [] [] 2 (fun j M=>by kernel_rfl) A0 rfl
theorem mssu':mssA_R [] (mssA k_1) .ret (fun z_=>∃(k12:Nat) (Y12:List Int) (k_2:mssC_c k_1 (n+l)) (k_4:mssE_c k_2 k12 Y12),z_=mssG k_4):=by
  refine rn_seq (w:= []) (by kernel_rfl) mss0 ?_
  rintro _ rfl
  refine rn_seq (w:= [1]) (by kernel_rfl) mss1 ?_
  rintro _ ⟨k_2,rfl⟩
  refine rn_seq (w:= [1,1]) (by kernel_rfl) mss6 ?_
  rintro _ ⟨k12,Y12,k_4,rfl⟩
  refine rn_seq (w:= [1,1,1]) (by kernel_rfl) mss7 ?_
  rintro _ rfl
  exact(mss8).mono fun _ e_=>⟨k12,Y12,k_2,k_4,e_⟩
abbrev mssA_s (K:Array Value) (tk:Tq) (n cp:Nat) (b:Int) (a:Array Value) (t:Tq) (p l c2:Nat) (j:Nat→Value):List Value:=([.slice (some ⟨0,0,none⟩) n cp,.int .u8 b,.slice (some ⟨1,p,none⟩) l c2] ++ (JU 34))
abbrev mssA_m (K:Array Value) (tk:Tq) (n cp:Nat) (b:Int) (a:Array Value) (t:Tq) (p l c2:Nat):List Mb:= [(K,tk),(a,t)]
abbrev mssG_s (K:Array Value) (tk:Tq) (n cp:Nat) (b:Int) (a:Array Value) (t:Tq) (p l c2:Nat) (m k:Nat) (Y:List Int) (j:Nat→Value):List Value:=(J j 0 6 ++ ([.slice (some ⟨2,0,none⟩) m m] ++ (J j 7 30)))
abbrev mssG_m (K:Array Value) (tk:Tq) (n cp:Nat) (b:Int) (a:Array Value) (t:Tq) (p l c2:Nat) (m k:Nat) (Y:List Int):List Mb:= [(K,tk),(a,t),((wA .u8 m (maskL (bL K 0 n) b ++ bL a p l)),(5,(0,0)))]
theorem mssu (K:Array Value) (tk:Tq) (n cp:Nat) (b:Int) (a:Array Value) (t:Tq) (p l c2:Nat) (j:Nat→Value) (hb:bytesAt K 0 n) (hn:n≤1000000000) (ha:bytesAt a p l) (hz:p+l≤a.size) (hl:l≤1000000000) (hlc:l≤c2)  :Runs Tryd.prog (cAt [] (bdy Tryd.f36)) ⟨mssA_s K tk n cp b a t p l c2 j,mssA_m K tk n cp b a t p l c2,c0,ch0⟩ (fun e s=>e= .ret∧∃(k12:Nat) (Y12:List Int),∃j c ch,((n+l)=n+l)∧(Y12=(maskL (bL K 0 n) b).take k12)∧(Y12.length=k12)∧(k12=n)∧s=⟨mssG_s K tk n cp b a t p l c2 (n+l) k12 Y12 j,mssG_m K tk n cp b a t p l c2 (n+l) k12 Y12,c,ch⟩) 2:=by
  refine(Rn.old (mssu' (k_1:=(⟨hb,hn,ha,hz,hl,hlc⟩:mssA_c K tk n cp b a t p l c2))) j (by kernel_rfl)).mono ?_
  rintro e s ⟨rfl,_,⟨k12,Y12,k_2,k_4,rfl⟩,j,c,ch,rfl⟩
  have⟨x_hm⟩:=k_2
  have⟨x_hY,x_hYl,x_hk⟩:=k_4
  exact⟨rfl,k12,Y12,j,c,ch,x_hm,x_hY,x_hYl,x_hk,by kernel_rfl⟩
def msnA_h (i:Nat):Hn:=⟨0,[],[],[],[]⟩
abbrev msnA_R (w:List Nat) (S:FS) (e:Exit) (K:FS→Prop):Prop:=Rn Tryd.prog (cAt w (bdy Tryd.f36)) S e K 1
structure msnA_c (K:Array Value) (tk:Tq) (n cp:Nat) (b:Int):Prop where
  hb:bytesAt K 0 n
  hn:n≤1000000000
variable {k_5:msnA_c K tk n cp b}
abbrev msnA (_:msnA_c K tk n cp b):FS:=⟨true,37,[(0,.slice (some ⟨0,0,none⟩) n cp),(1,.int .u8 b),(2,.slice none 0 0)],[(K,tk)]⟩
abbrev msnB (_:msnA_c K tk n cp b):FS:=⟨false,37,[(0,.slice (some ⟨0,0,none⟩) n cp),(1,.int .u8 b),(2,.slice none 0 0)],[(K,tk)]⟩
theorem msn0:msnA_R [0] (msnA k_5) .normal (fun z_=>z_=msnB k_5):=rn_ev (yty.enf tab0 1) msnA_h mixed _ none [] [] 1 (fun j M=>by kernel_rfl) A0 rfl
structure msnC_c (_:msnA_c K tk n cp b) (m:Nat):Prop where
  hm:m=n+0
variable {k_6:msnC_c k_5 m}
abbrev msnC (_:msnC_c k_5 m):FS:=⟨false,37,[(0,.slice (some ⟨0,0,none⟩) n cp),(1,.int .u8 b),(2,.slice none 0 0),(7,.slice (some ⟨1,0,none⟩) m m)],[(K,tk),((wA .u8 m []),(5,(0,0)))]⟩
theorem msn1:msnA_R [1,0] (msnB k_5) .normal (fun z_=>∃(k_6:msnC_c k_5 (n)),z_=msnC k_6):=by
  have⟨hb,hn⟩:=id k_5
  exact rn_ev (yty.enf tab0 1) msnA_h mixed (⟨false,37,[(0,.slice (some ⟨0,0,none⟩) n cp),(1,.int .u8 b),(2,.slice none 0 0),(7,.slice (some ⟨1,0,none⟩) n n)],[(K,tk),((madeCells (#[.int .u8 0]) (n*1)),(5,(0,0)))]⟩) none [some (.int .i64 (n:Int))] [(9,(IntKind.i64.wrap ((n:Int)+0))=(n:Int)),(0,(0≤(n:Int)∧(n:Int)=(n:Int)∧1*n≤281474976710656∧n≤9223372036854775807))] 1 (fun j M=>by kernel_rfl) (A1 (wi64 (by omega)) (A1 ⟨by omega,rfl,by omega,by omega⟩ A0)) ⟨⟨rfl⟩,(by
    delta msnC
    rw[made_wA]
    try kernel_rfl)⟩
structure msnD_c (_:msnC_c k_5 m) (k:Nat) (Y:List Int):Prop where
  hY:Y=(maskL (bL K 0 n) b).take k
  hYl:Y.length=k
  hk:k≤n
variable {k_7:msnD_c k_6 k Y}
abbrev msnD (_:msnD_c k_6 k Y):FS:=⟨false,37,[(0,.slice (some ⟨0,0,none⟩) n cp),(1,.int .u8 b),(2,.slice none 0 0),(7,.slice (some ⟨1,0,none⟩) m m),(16,.slice (some ⟨0,0,none⟩) n cp),(17,.int .i64 (n:Int)),(18,.int .i64 (k:Int))],[(K,tk),((wA .u8 m Y),(5,(0,0)))]⟩
theorem msn2:msnA_R [1,1,0,0] (msnC k_6) .normal (fun z_=>∃(k_7:msnD_c k_6 0 ([]:List Int)),z_=msnD k_7):=rn_ev (yty.enf tab0 1) msnA_h mixed _ none [] [] 3 (fun j M=>by kernel_rfl) A0 ⟨⟨rfl,rfl,Nat.zero_le _⟩,rfl⟩
structure msnE_c (_:msnC_c k_5 m) (k:Nat) (Y:List Int):Prop where
  hY:Y=(maskL (bL K 0 n) b).take k
  hYl:Y.length=k
  hk:k=n
variable {k_8:msnE_c k_6 k Y}
abbrev msnE (_:msnE_c k_6 k Y):FS:=⟨false,37,[(0,.slice (some ⟨0,0,none⟩) n cp),(1,.int .u8 b),(2,.slice none 0 0),(7,.slice (some ⟨1,0,none⟩) m m),(16,.slice (some ⟨0,0,none⟩) n cp),(17,.int .i64 (n:Int)),(18,.int .i64 (k:Int))],[(K,tk),((wA .u8 m Y),(5,(0,0)))]⟩
theorem msn3 (hlt:k<n):msnA_R [1,1,0,1,0,0] (msnD k_7) .normal (fun z_=>∃(k_7:msnD_c k_6 (k+1) (Y ++ [(bits .xor .u8 (iat K (0+k)) b)])),z_=msnD k_7):=by
  have⟨hb,hn⟩:=id k_5
  have⟨hm⟩:=id k_6
  have⟨hY,hYl,hk⟩:=id k_7
  exact rn_ev (yty.enf tab0 1) msnA_h mixed _ none [some (.bool true),some (.int .u8 (iat K (0+k))),none,some (.agg (wA .u8 m (Y ++ [(bits .xor .u8 (iat K (0+k)) b)]))),some (.int .i64 ((k+1:Nat):Int))] [(1,(decide ((k:Int)<(n:Int)))=true),(2,((0:Int)≤(k:Int)∧((k:Int):Int)<(n:Int))),(0,((K[(0+Int.toNat (k:Int)*1)]? =some (.int .u8 (iat K (0+k))))∧(iat K (0+k))=(iat K (0+k)))),(14,((0:Int)≤(k:Int)∧((k:Int):Int)<(m:Int))),(0,((0+Int.toNat (k:Int)*1)<(wA .u8 m Y).size∧(wA .u8 m Y).setIfInBounds (0+Int.toNat (k:Int)*1) (.int .u8 (bits .xor .u8 (iat K (0+k)) b))=(wA .u8 m (Y ++ [(bits .xor .u8 (iat K (0+k)) b)])))),(1,(IntKind.i64.wrap ((k:Int)+1))=((k+1:Nat):Int))] 1 (fun j M=>by kernel_rfl) (A1 (decide_eq_true (by omega)) (A1 (by(try simp only[Int.toNat_natCast,wA_size]);omega) (A1 ⟨(by rw[Int.toNat_natCast,Nat.mul_one];exact(hb k hlt).1),rfl⟩ (A1 (by(try simp only[Int.toNat_natCast,wA_size]);omega) (A1 (wA_set (by omega) (by omega)) (A1 (wi64 (by omega)) A0)))))) ⟨⟨by rw[hY];exact mask_step hlt,by simp only[List.length_append,List.length_cons,List.length_nil];omega,by omega⟩,rfl⟩
theorem msn4 (hge:¬ k<n):msnA_R [1,1,0,1,0,0] (msnD k_7) (.exit 0) (fun z_=>∃(k_8:msnE_c k_6 k Y),z_=msnE k_8):=by
  have⟨hb,hn⟩:=id k_5
  have⟨hm⟩:=id k_6
  have⟨hY,hYl,hk⟩:=id k_7
  exact rn_ev (yty.enf tab0 1) msnA_h mixed _ none [some (.bool false)] [(1,(decide ((k:Int)<(n:Int)))=false)] 0 (fun j M=>by kernel_rfl) (A1 (decide_eq_false (by omega)) A0) ⟨⟨hY,hYl,by omega⟩,rfl⟩
theorem msn5:msnA_R [1,1,0,1] (msnD k_7) .normal (fun z_=>∃(k:Nat) (Y:List Int) (k_8:msnE_c k_6 k Y),z_=msnE k_8):=by
  refine rn_loop (k:=0) (w:= [1,1,0,1]) (by kernel_rfl) (fun n_ z_=>∃(k:Nat) (Y:List Int) (k_7:msnD_c k_6 k Y),n_=n - k∧z_=msnD k_7) _ ⟨_,_,k_7,rfl,rfl⟩ ?_
  rintro n_ _ ⟨k,Y,k_7,hn_,rfl⟩
  have⟨hb,hn⟩:=k_5
  have⟨hm⟩:=k_6
  have⟨hY,hYl,hk⟩:=k_7
  by_cases hlt:k<n
  · exact(msn3 hlt).x fun _ ⟨k_7,e_⟩=> .inl ⟨rfl,n - (k+1),by omega,⟨_,_,k_7,rfl,e_⟩⟩
  · exact(msn4 hlt).x fun _ ⟨k_8,e_⟩=> .inr ⟨rfl,⟨k,Y,k_8,e_⟩⟩
theorem msn6:msnA_R [1,1,0] (msnC k_6) .normal (fun z_=>∃(k1:Nat) (Y1:List Int) (k_8:msnE_c k_6 k1 Y1),z_=msnE k_8):=by
  refine rn_seq (w:= [1,1,0]) (by kernel_rfl) msn2 ?_
  rintro _ ⟨k_7,rfl⟩
  exact msn5
abbrev msnF (_:msnE_c k_6 k Y):FS:=⟨false,37,[(7,.slice (some ⟨1,0,none⟩) m m)],[(K,tk),((wA .u8 m (maskL (bL K 0 n) b)),(5,(0,0)))]⟩
theorem msn7:msnA_R [1,1,1,0] (msnE k_8) .normal (fun z_=>z_=msnF k_8):=by
  have⟨hb,hn⟩:=id k_5
  have⟨hm⟩:=id k_6
  have⟨hY,hYl,hk⟩:=id k_8
  have e:Y=maskL (bL K 0 n) b:=by rw[hY,hk,List.take_of_length_le (by rw[maskL_len,bL_len];omega)]
  subst e
  exact rn_ev (yty.enf tab0 1) msnA_h mixed _ none [] [(6,(((0≤(n:Int))∧True)∧n≤m∧m≤m))] 2 (fun j M=>by kernel_rfl) (A1 (by refine⟨⟨?_,?_⟩,?_,?_⟩<;>first|trivial|omega) A0) rfl
abbrev msnG (_:msnE_c k_6 k Y):FS:=⟨false,37,[(6,.slice (some ⟨1,0,none⟩) m m)],[(K,tk),((wA .u8 m (maskL (bL K 0 n) b)),(5,(0,0)))]⟩
theorem msn8:msnA_R [1,1,1,1] (msnF k_8) .ret (fun z_=>z_=msnG k_8):=rn_ev (yty.enf tab0 1) msnA_h mixed _ none [] [] 2 (fun j M=>by kernel_rfl) A0 rfl
theorem msnu':msnA_R [] (msnA k_5) .ret (fun z_=>∃(k12:Nat) (Y12:List Int) (k_6:msnC_c k_5 (n)) (k_8:msnE_c k_6 k12 Y12),z_=msnG k_8):=by
  refine rn_seq (w:= []) (by kernel_rfl) msn0 ?_
  rintro _ rfl
  refine rn_seq (w:= [1]) (by kernel_rfl) msn1 ?_
  rintro _ ⟨k_6,rfl⟩
  refine rn_seq (w:= [1,1]) (by kernel_rfl) msn6 ?_
  rintro _ ⟨k12,Y12,k_8,rfl⟩
  refine rn_seq (w:= [1,1,1]) (by kernel_rfl) msn7 ?_
  rintro _ rfl
  exact(msn8).mono fun _ e_=>⟨k12,Y12,k_6,k_8,e_⟩
abbrev msnA_s (K:Array Value) (tk:Tq) (n cp:Nat) (b:Int) (j:Nat→Value):List Value:=([.slice (some ⟨0,0,none⟩) n cp,.int .u8 b,.slice none 0 0] ++ (JU 34))
abbrev msnA_m (K:Array Value) (tk:Tq) (n cp:Nat) (b:Int):List Mb:= [(K,tk)]
abbrev msnG_s (K:Array Value) (tk:Tq) (n cp:Nat) (b:Int) (m k:Nat) (Y:List Int) (j:Nat→Value):List Value:=(J j 0 6 ++ ([.slice (some ⟨1,0,none⟩) m m] ++ (J j 7 30)))
abbrev msnG_m (K:Array Value) (tk:Tq) (n cp:Nat) (b:Int) (m k:Nat) (Y:List Int):List Mb:= [(K,tk),((wA .u8 m (maskL (bL K 0 n) b)),(5,(0,0)))]
theorem msnu (K:Array Value) (tk:Tq) (n cp:Nat) (b:Int) (j:Nat→Value) (hb:bytesAt K 0 n) (hn:n≤1000000000)  :Runs Tryd.prog (cAt [] (bdy Tryd.f36)) ⟨msnA_s K tk n cp b j,msnA_m K tk n cp b,c0,ch0⟩ (fun e s=>e= .ret∧∃(k12:Nat) (Y12:List Int),∃j c ch,((n)=n+0)∧(Y12=(maskL (bL K 0 n) b).take k12)∧(Y12.length=k12)∧(k12=n)∧s=⟨msnG_s K tk n cp b (n) k12 Y12 j,msnG_m K tk n cp b (n) k12 Y12,c,ch⟩) 1:=by
  refine(Rn.old (msnu' (k_5:=(⟨hb,hn⟩:msnA_c K tk n cp b))) j (by kernel_rfl)).mono ?_
  rintro e s ⟨rfl,_,⟨k12,Y12,k_6,k_8,rfl⟩,j,c,ch,rfl⟩
  have⟨x_hm⟩:=k_6
  have⟨x_hY,x_hYl,x_hk⟩:=k_8
  exact⟨rfl,k12,Y12,j,c,ch,x_hm,x_hY,x_hYl,x_hk,by kernel_rfl⟩
end Go.Proofs.YtcfnjcacdmkgbaaDoor

set_option linter.unusedSimpArgs false
set_option linter.unusedVariables false
/-! mac: a key's block. -/
namespace Go.Proofs.YtcfnjcacdmkgbaaDoor
open Go.RowKit Go.Ev
variable {c0:Prop} {ch0:List (Option Value)}
theorem bL_wA {n:Nat} {L:List Int} (h:L.length=n):bL (wA .u8 n L) 0 n=L:=by
  apply List.ext_getElem?
  intro i
  by_cases hi:i<n
  · have h1 := bL_at (a := wA .u8 n L) (p := 0) (r := n) (i := i)
    rw[if_pos hi,Nat.zero_add] at h1
    have h2:iat (wA .u8 n L) i=L.getD i 0:=by unfold iat;rw[wA_at hi]
    rw[h2,List.getD_eq_getElem?_getD,List.getD_eq_getElem?_getD] at h1
    have l1:i<(bL (wA .u8 n L) 0 n).length:=by rw[bL_len];exact hi
    rw[List.getElem?_eq_getElem l1,List.getElem?_eq_getElem (by omega)] at h1 ⊢
    exact congrArg some h1
  · rw[List.getElem?_eq_none (by rw[bL_len];omega),List.getElem?_eq_none (by omega)]
theorem bytes_wA {n:Nat} {L:List Int} (h:∀ x ∈ L,0≤x∧x<256):bytesAt (wA .u8 n L) 0 n:=wA_bytes (fun i hi=>by
  rw[List.getD_eq_getElem?_getD]
  cases e:L[i]? with
  |none=>exact⟨by decide,by decide⟩
  |some x=>exact h x (List.mem_of_getElem? e))
def key2 (N:List Int):List Int:=if N.length≤64 then N else sh2 N
def bk2nA_h (i:Nat):Hn:=⟨0,[],[],[],[]⟩
abbrev bk2nA_R (w:List Nat) (S:FS) (e:Exit) (K:FS→Prop):Prop:=Rn Tryd.prog (cAt w (bdy Tryd.f34)) S e K 2000002
structure bk2nA_c (g0 g1:Tq):Prop where
variable {g0 g1:Tq} {k_1:bk2nA_c g0 g1}
abbrev bk2nA (_:bk2nA_c g0 g1):FS:=⟨true,15,[(0,.slice none 0 0)],[((wA .u32 64 kL2),g0),((wA .u64 80 kL5),g1)]⟩
abbrev bk2nB (_:bk2nA_c g0 g1):FS:=⟨false,15,[(0,.slice none 0 0),(2,.pointer (some ⟨2,0,none⟩))],[((wA .u32 64 kL2),g0),((wA .u64 80 kL5),g1),((wA .u8 64 []),(29,(0,0)))]⟩
abbrev bk2nC (_:bk2nA_c g0 g1):FS:=⟨false,15,[(0,.slice none 0 0),(2,.pointer (some ⟨2,0,none⟩)),(3,.pointer (some ⟨3,0,none⟩))],[((wA .u32 64 kL2),g0),((wA .u64 80 kL5),g1),((wA .u8 64 []),(29,(0,0))),((wA .u8 64 []),(29,(0,0)))]⟩
theorem bk2n0:bk2nA_R [0] (bk2nA k_1) .normal (fun z_=>z_=bk2nB k_1):=rn_ev (yty.enm tabS8 [mEnd] 2000002) bk2nA_h mixed _ none [] [] 0 (fun j M=>by kernel_rfl) A0 rfl
theorem bk2n1:bk2nA_R [1,0] (bk2nB k_1) .normal (fun z_=>z_=bk2nC k_1):=rn_ev (yty.enm tabS8 [mEnd] 2000002) bk2nA_h mixed _ none [] [] 0 (fun j M=>by kernel_rfl) A0 rfl
theorem bk2n2:bk2nA_R [1,1,0] (bk2nC k_1) .normal (fun z_=>z_=bk2nC k_1):=rn_ev (yty.enm tabS8 [mEnd] 2000002) bk2nA_h mixed _ none [] [] 3 (fun j M=>by kernel_rfl) A0 rfl
abbrev bk2nE (_:bk2nA_c g0 g1):FS:=⟨false,15,[(2,.pointer (some ⟨2,0,none⟩)),(3,.pointer (some ⟨3,0,none⟩))],[((wA .u32 64 kL2),g0),((wA .u64 80 kL5),g1),((wA .u8 64 []),(29,(0,0))),((wA .u8 64 ([]:List Int)),(29,(0,0)))]⟩
theorem bk2n3:bk2nA_R [1,1,1,0] (bk2nC k_1) .normal (fun z_=>z_=bk2nE k_1):=rn_ev (yty.enm tabS8 [mEnd] 2000002) bk2nA_h mixed _ none [] [] 3 (fun j M=>by kernel_rfl) A0 rfl
abbrev bk2nG (_:bk2nA_c g0 g1):FS:=⟨false,15,[(2,.pointer (some ⟨2,0,none⟩))],[((wA .u32 64 kL2),g0),((wA .u64 80 kL5),g1),((wA .u8 64 ([]:List Int)),(29,(0,0))),((wA .u8 64 ([]:List Int)),(29,(0,0)))]⟩
theorem bk2n4:bk2nA_R [1,1,1,1] (bk2nE k_1) .ret (fun z_=>z_=bk2nG k_1):=rn_ev (yty.enm tabS8 [mEnd] 2000002) bk2nA_h mixed _ none [] [(2,((wA .u8 64 ([]:List Int)).all (fun v=>v.oneCell')=true))] 0 (fun j M=>by kernel_rfl) (A1 (wA_one _ _ _) A0) rfl
theorem bk2nu':bk2nA_R [] (bk2nA k_1) .ret (fun z_=>z_=bk2nG k_1):=by
  refine rn_seq (w:= []) (by kernel_rfl) bk2n0 ?_
  rintro _ rfl
  refine rn_seq (w:= [1]) (by kernel_rfl) bk2n1 ?_
  rintro _ rfl
  refine rn_seq (w:= [1,1]) (by kernel_rfl) bk2n2 ?_
  rintro _ rfl
  refine rn_seq (w:= [1,1,1]) (by kernel_rfl) bk2n3 ?_
  rintro _ rfl
  exact bk2n4
abbrev bk2nA_s (g0 g1:Tq) (j:Nat→Value):List Value:=([.slice none 0 0] ++ (JU 14))
abbrev bk2nA_m (g0 g1:Tq):List Mb:= [((wA .u32 64 kL2),g0),((wA .u64 80 kL5),g1)]
abbrev bk2nG_s (g0 g1:Tq) (j:Nat→Value):List Value:=([j 0,j 1,.pointer (some ⟨2,0,none⟩)] ++ (J j 3 12))
abbrev bk2nG_m (g0 g1:Tq):List Mb:= [((wA .u32 64 kL2),g0),((wA .u64 80 kL5),g1),((wA .u8 64 ([]:List Int)),(29,(0,0))),((wA .u8 64 ([]:List Int)),(29,(0,0)))]
theorem bk2nu (g0 g1:Tq) (j:Nat→Value)   :Runs Tryd.prog (cAt [] (bdy Tryd.f34)) ⟨bk2nA_s g0 g1 j,bk2nA_m g0 g1,c0,ch0⟩ (fun e s=>e= .ret∧∃j c ch,s=⟨bk2nG_s g0 g1 j,bk2nG_m g0 g1,c,ch⟩) 2000002:=by
  refine(Rn.old (bk2nu' (k_1:=(⟨⟩:bk2nA_c g0 g1))) j (by kernel_rfl)).mono ?_
  rintro e s ⟨rfl,_,rfl,j,c,ch,rfl⟩
  exact⟨rfl,j,c,ch,by kernel_rfl⟩
def bk2sA_h (i:Nat):Hn:=⟨0,[],[],[],[]⟩
abbrev bk2sA_R (w:List Nat) (S:FS) (e:Exit) (K:FS→Prop):Prop:=Rn Tryd.prog (cAt w (bdy Tryd.f34)) S e K 2000003
structure bk2sA_c (g0 g1 t:Tq) (a:Array Value) (o l cp:Nat):Prop where
  hb:bytesAt a o l
  hz:o+l≤a.size
  hcp:l≤cp
  hl:l≤64
variable {t:Tq} {a:Array Value} {o l cp:Nat} {k_2:bk2sA_c g0 g1 t a o l cp}
abbrev bk2sA (_:bk2sA_c g0 g1 t a o l cp):FS:=⟨true,15,[(0,.slice (some ⟨2,o,none⟩) l cp)],[((wA .u32 64 kL2),g0),((wA .u64 80 kL5),g1),(a,t)]⟩
abbrev bk2sB (_:bk2sA_c g0 g1 t a o l cp):FS:=⟨false,15,[(0,.slice (some ⟨2,o,none⟩) l cp),(2,.pointer (some ⟨3,0,none⟩))],[((wA .u32 64 kL2),g0),((wA .u64 80 kL5),g1),(a,t),((wA .u8 64 []),(29,(0,0)))]⟩
abbrev bk2sC (_:bk2sA_c g0 g1 t a o l cp):FS:=⟨false,15,[(0,.slice (some ⟨2,o,none⟩) l cp),(2,.pointer (some ⟨3,0,none⟩)),(3,.pointer (some ⟨4,0,none⟩))],[((wA .u32 64 kL2),g0),((wA .u64 80 kL5),g1),(a,t),((wA .u8 64 []),(29,(0,0))),((wA .u8 64 []),(29,(0,0)))]⟩
theorem bk2s0:bk2sA_R [0] (bk2sA k_2) .normal (fun z_=>z_=bk2sB k_2):=rn_ev (yty.enm tabS8 [mEnd] 2000003) bk2sA_h mixed _ none [] [] 0 (fun j M=>by kernel_rfl) A0 rfl
theorem bk2s1:bk2sA_R [1,0] (bk2sB k_2) .normal (fun z_=>z_=bk2sC k_2):=rn_ev (yty.enm tabS8 [mEnd] 2000003) bk2sA_h mixed _ none [] [] 0 (fun j M=>by kernel_rfl) A0 rfl
theorem bk2s2:bk2sA_R [1,1,0] (bk2sC k_2) .normal (fun z_=>z_=bk2sC k_2):=by
  have⟨hb,hz,hcp,hl⟩:=id k_2
  exact rn_ev (yty.enm tabS8 [mEnd] 2000003) bk2sA_h mixed _ none [some (.bool false)] [(5,(decide (64<(l:Int)))=false)] 0 (fun j M=>by kernel_rfl) (A1 (decide_eq_false (by omega)) A0) rfl
abbrev bk2sE (_:bk2sA_c g0 g1 t a o l cp):FS:=⟨false,15,[(2,.pointer (some ⟨3,0,none⟩)),(3,.pointer (some ⟨4,0,none⟩))],[((wA .u32 64 kL2),g0),((wA .u64 80 kL5),g1),(a,t),((wA .u8 64 []),(29,(0,0))),((wA .u8 64 (bL a o l)),(29,(0,0)))]⟩
theorem bk2s3:bk2sA_R [1,1,1,0] (bk2sC k_2) .normal (fun z_=>z_=bk2sE k_2):=by
  have⟨hb,hz,hcp,hl⟩:=id k_2
  exact rn_ev (yty.enm tabS8 [mEnd] 2000003) bk2sA_h mixed _ none [some (.agg (wA .u8 64 (bL a o l)))] [(4,((0+Nat.min l 64≤(wA .u8 64 []).size∧o+Nat.min l 64≤a.size)∧(a.extract o (o+Nat.min l 64)).all (fun v=>v.oneCell')=true∧Calm.splice (wA .u8 64 []) 0 (a.extract o (o+Nat.min l 64))=(wA .u8 64 (bL a o l))))] 0 (fun j M=>by kernel_rfl) (A1 (by have e:Nat.min l 64=l:=Nat.min_eq_left (by omega);rw[e];exact cp_ok hb hz hl) A0) rfl
abbrev bk2sG (_:bk2sA_c g0 g1 t a o l cp):FS:=⟨false,15,[(2,.pointer (some ⟨3,0,none⟩))],[((wA .u32 64 kL2),g0),((wA .u64 80 kL5),g1),(a,t),((wA .u8 64 (bL a o l)),(29,(0,0))),((wA .u8 64 (bL a o l)),(29,(0,0)))]⟩
theorem bk2s4:bk2sA_R [1,1,1,1] (bk2sE k_2) .ret (fun z_=>z_=bk2sG k_2):=rn_ev (yty.enm tabS8 [mEnd] 2000003) bk2sA_h mixed _ none [] [(2,((wA .u8 64 (bL a o l)).all (fun v=>v.oneCell')=true))] 0 (fun j M=>by kernel_rfl) (A1 (wA_one _ _ _) A0) rfl
theorem bk2su':bk2sA_R [] (bk2sA k_2) .ret (fun z_=>z_=bk2sG k_2):=by
  refine rn_seq (w:= []) (by kernel_rfl) bk2s0 ?_
  rintro _ rfl
  refine rn_seq (w:= [1]) (by kernel_rfl) bk2s1 ?_
  rintro _ rfl
  refine rn_seq (w:= [1,1]) (by kernel_rfl) bk2s2 ?_
  rintro _ rfl
  refine rn_seq (w:= [1,1,1]) (by kernel_rfl) bk2s3 ?_
  rintro _ rfl
  exact bk2s4
abbrev bk2sA_s (g0 g1 t:Tq) (a:Array Value) (o l cp:Nat) (j:Nat→Value):List Value:=([.slice (some ⟨2,o,none⟩) l cp] ++ (JU 14))
abbrev bk2sA_m (g0 g1 t:Tq) (a:Array Value) (o l cp:Nat):List Mb:= [((wA .u32 64 kL2),g0),((wA .u64 80 kL5),g1),(a,t)]
abbrev bk2sG_s (g0 g1 t:Tq) (a:Array Value) (o l cp:Nat) (j:Nat→Value):List Value:=([j 0,j 1,.pointer (some ⟨3,0,none⟩)] ++ (J j 3 12))
abbrev bk2sG_m (g0 g1 t:Tq) (a:Array Value) (o l cp:Nat):List Mb:= [((wA .u32 64 kL2),g0),((wA .u64 80 kL5),g1),(a,t),((wA .u8 64 (bL a o l)),(29,(0,0))),((wA .u8 64 (bL a o l)),(29,(0,0)))]
theorem bk2su (g0 g1 t:Tq) (a:Array Value) (o l cp:Nat) (j:Nat→Value) (hb:bytesAt a o l) (hz:o+l≤a.size) (hcp:l≤cp) (hl:l≤64)  :Runs Tryd.prog (cAt [] (bdy Tryd.f34)) ⟨bk2sA_s g0 g1 t a o l cp j,bk2sA_m g0 g1 t a o l cp,c0,ch0⟩ (fun e s=>e= .ret∧∃j c ch,s=⟨bk2sG_s g0 g1 t a o l cp j,bk2sG_m g0 g1 t a o l cp,c,ch⟩) 2000003:=by
  refine(Rn.old (bk2su' (k_2:=(⟨hb,hz,hcp,hl⟩:bk2sA_c g0 g1 t a o l cp))) j (by kernel_rfl)).mono ?_
  rintro e s ⟨rfl,_,rfl,j,c,ch,rfl⟩
  exact⟨rfl,j,c,ch,by kernel_rfl⟩
def bk2gA_h (i:Nat):Hn:=⟨0,[],[],[],[]⟩
abbrev bk2gA_R (w:List Nat) (S:FS) (e:Exit) (K:FS→Prop):Prop:=Rn Tryd.prog (cAt w (bdy Tryd.f34)) S e K 2000003
structure bk2gA_c (g0 g1 t:Tq) (a:Array Value) (o l cp:Nat):Prop where
  hb:bytesAt a o l
  hz:o+l≤a.size
  hcp:l≤cp
  hl:64<l∧l≤1000000000
variable {k_3:bk2gA_c g0 g1 t a o l cp}
abbrev bk2gA (_:bk2gA_c g0 g1 t a o l cp):FS:=⟨true,15,[(0,.slice (some ⟨2,o,none⟩) l cp)],[((wA .u32 64 kL2),g0),((wA .u64 80 kL5),g1),(a,t)]⟩
abbrev bk2gB (_:bk2gA_c g0 g1 t a o l cp):FS:=⟨false,15,[(0,.slice (some ⟨2,o,none⟩) l cp),(2,.pointer (some ⟨3,0,none⟩))],[((wA .u32 64 kL2),g0),((wA .u64 80 kL5),g1),(a,t),((wA .u8 64 []),(29,(0,0)))]⟩
abbrev bk2gC (_:bk2gA_c g0 g1 t a o l cp):FS:=⟨false,15,[(0,.slice (some ⟨2,o,none⟩) l cp),(2,.pointer (some ⟨3,0,none⟩)),(3,.pointer (some ⟨4,0,none⟩))],[((wA .u32 64 kL2),g0),((wA .u64 80 kL5),g1),(a,t),((wA .u8 64 []),(29,(0,0))),((wA .u8 64 []),(29,(0,0)))]⟩
theorem bk2g0:bk2gA_R [0] (bk2gA k_3) .normal (fun z_=>z_=bk2gB k_3):=rn_ev (yty.enm tabS8 [mEnd] 2000003) bk2gA_h mixed _ none [] [] 0 (fun j M=>by kernel_rfl) A0 rfl
theorem bk2g1:bk2gA_R [1,0] (bk2gB k_3) .normal (fun z_=>z_=bk2gC k_3):=rn_ev (yty.enm tabS8 [mEnd] 2000003) bk2gA_h mixed _ none [] [] 0 (fun j M=>by kernel_rfl) A0 rfl
abbrev bk2gD (_:bk2gA_c g0 g1 t a o l cp):FS:=⟨false,15,[(0,.slice (some ⟨5,0,none⟩) 32 32),(2,.pointer (some ⟨3,0,none⟩)),(3,.pointer (some ⟨4,0,none⟩))],[((wA .u32 64 kL2),g0),((wA .u64 80 kL5),g1),(a,t),((wA .u8 64 []),(29,(0,0))),((wA .u8 64 []),(29,(0,0))),((wA .u8 32 (sum2 a o l)),(25,(0,0)))]⟩
theorem bk2g2:bk2gA_R [1,1,0] (bk2gC k_3) .normal (fun z_=>z_=bk2gD k_3):=by
  have⟨hb,hz,hcp,hl⟩:=id k_3
  exact rn_ev (yty.enm tabS8 [mEnd] 2000003) bk2gA_h mixed _ none [some (.bool true)] [(5,(decide (64<(l:Int)))=true),(2,((wA .u32 64 kL2)=wA .u32 64 kL2∧(wA .u64 80 kL5)=wA .u64 80 kL5∧bytesAt a o l∧o+l≤a.size∧l≤cp∧l<1152921504606846976)),(0,((wA .u8 32 (sum2 a o l)).all (fun v=>v.oneCell')=true))] 2 (fun j M=>by kernel_rfl) (A1 (decide_eq_true (by omega)) (A1 ⟨rfl,rfl,hb,hz,hcp,by omega⟩ (A1 (wA_one _ _ _) A0))) rfl
abbrev bk2gF (_:bk2gA_c g0 g1 t a o l cp):FS:=⟨false,15,[(2,.pointer (some ⟨3,0,none⟩)),(3,.pointer (some ⟨4,0,none⟩))],[((wA .u32 64 kL2),g0),((wA .u64 80 kL5),g1),(a,t),((wA .u8 64 []),(29,(0,0))),((wA .u8 64 (bL (wA .u8 32 (sum2 a o l)) 0 32)),(29,(0,0))),((wA .u8 32 (sum2 a o l)),(25,(0,0)))]⟩
theorem bk2g3:bk2gA_R [1,1,1,0] (bk2gD k_3) .normal (fun z_=>z_=bk2gF k_3):=by
  have⟨hb,hz,hcp,hl⟩:=id k_3
  exact rn_ev (yty.enm tabS8 [mEnd] 2000003) bk2gA_h mixed _ none [some (.agg (wA .u8 64 (bL (wA .u8 32 (sum2 a o l)) 0 32)))] [(4,((0+Nat.min 32 64≤(wA .u8 64 []).size∧0+Nat.min 32 64≤(wA .u8 32 (sum2 a o l)).size)∧((wA .u8 32 (sum2 a o l)).extract 0 (0+Nat.min 32 64)).all (fun v=>v.oneCell')=true∧Calm.splice (wA .u8 64 []) 0 ((wA .u8 32 (sum2 a o l)).extract 0 (0+Nat.min 32 64))=(wA .u8 64 (bL (wA .u8 32 (sum2 a o l)) 0 32))))] 0 (fun j M=>by kernel_rfl) (A1 (cp_ok (by rw[sum2_sh hb hl.2];exact bytes_wA (sh2_bt _)) (by rw[wA_size];decide) (by decide)) A0) rfl
abbrev bk2gG (_:bk2gA_c g0 g1 t a o l cp):FS:=⟨false,15,[(2,.pointer (some ⟨3,0,none⟩))],[((wA .u32 64 kL2),g0),((wA .u64 80 kL5),g1),(a,t),((wA .u8 64 (bL (wA .u8 32 (sum2 a o l)) 0 32)),(29,(0,0))),((wA .u8 64 (bL (wA .u8 32 (sum2 a o l)) 0 32)),(29,(0,0))),((wA .u8 32 (sum2 a o l)),(25,(0,0)))]⟩
theorem bk2g4:bk2gA_R [1,1,1,1] (bk2gF k_3) .ret (fun z_=>z_=bk2gG k_3):=rn_ev (yty.enm tabS8 [mEnd] 2000003) bk2gA_h mixed _ none [] [(2,((wA .u8 64 (bL (wA .u8 32 (sum2 a o l)) 0 32)).all (fun v=>v.oneCell')=true))] 0 (fun j M=>by kernel_rfl) (A1 (wA_one _ _ _) A0) rfl
theorem bk2gu':bk2gA_R [] (bk2gA k_3) .ret (fun z_=>z_=bk2gG k_3):=by
  refine rn_seq (w:= []) (by kernel_rfl) bk2g0 ?_
  rintro _ rfl
  refine rn_seq (w:= [1]) (by kernel_rfl) bk2g1 ?_
  rintro _ rfl
  refine rn_seq (w:= [1,1]) (by kernel_rfl) bk2g2 ?_
  rintro _ rfl
  refine rn_seq (w:= [1,1,1]) (by kernel_rfl) bk2g3 ?_
  rintro _ rfl
  exact bk2g4
abbrev bk2gA_s (g0 g1 t:Tq) (a:Array Value) (o l cp:Nat) (j:Nat→Value):List Value:=([.slice (some ⟨2,o,none⟩) l cp] ++ (JU 14))
abbrev bk2gA_m (g0 g1 t:Tq) (a:Array Value) (o l cp:Nat):List Mb:= [((wA .u32 64 kL2),g0),((wA .u64 80 kL5),g1),(a,t)]
abbrev bk2gG_s (g0 g1 t:Tq) (a:Array Value) (o l cp:Nat) (j:Nat→Value):List Value:=([j 0,j 1,.pointer (some ⟨3,0,none⟩)] ++ (J j 3 12))
abbrev bk2gG_m (g0 g1 t:Tq) (a:Array Value) (o l cp:Nat):List Mb:= [((wA .u32 64 kL2),g0),((wA .u64 80 kL5),g1),(a,t),((wA .u8 64 (bL (wA .u8 32 (sum2 a o l)) 0 32)),(29,(0,0))),((wA .u8 64 (bL (wA .u8 32 (sum2 a o l)) 0 32)),(29,(0,0))),((wA .u8 32 (sum2 a o l)),(25,(0,0)))]
theorem bk2gu (g0 g1 t:Tq) (a:Array Value) (o l cp:Nat) (j:Nat→Value) (hb:bytesAt a o l) (hz:o+l≤a.size) (hcp:l≤cp) (hl:64<l∧l≤1000000000)  :Runs Tryd.prog (cAt [] (bdy Tryd.f34)) ⟨bk2gA_s g0 g1 t a o l cp j,bk2gA_m g0 g1 t a o l cp,c0,ch0⟩ (fun e s=>e= .ret∧∃j c ch,s=⟨bk2gG_s g0 g1 t a o l cp j,bk2gG_m g0 g1 t a o l cp,c,ch⟩) 2000003:=by
  refine(Rn.old (bk2gu' (k_3:=(⟨hb,hz,hcp,hl⟩:bk2gA_c g0 g1 t a o l cp))) j (by kernel_rfl)).mono ?_
  rintro e s ⟨rfl,_,rfl,j,c,ch,rfl⟩
  exact⟨rfl,j,c,ch,by kernel_rfl⟩
theorem Block2_c (g0 g1 t:Tq) (a:Array Value) (o l cp:Nat) (hb:bytesAt a o l) (hz:o+l≤a.size) (hcp:l≤cp) (hl:l≤1000000000):Reads Tryd.prog 34 [(wA .u32 64 kL2,g0),(wA .u64 80 kL5,g1),(a,t)] [.slice (some ⟨2,o,none⟩) l cp] (.agg (wA .u8 64 (key2 (bL a o l)))) 2:=by
  refine reads_runs (fk:=2000003) (yty.enm tabS8 [mEnd] 2000003) Tryd.func34 (c:=bdy Tryd.f34) (by kernel_rfl) ⟨len3 _ _ _,by decide⟩ (args:= [.slice (some ⟨2,o,none⟩) l cp]) (by kernel_rfl) (K:=fun e s=>e= .ret∧resS (yty.enm tabS8 [mEnd] 2000003) s Tryd.f34.results.toList=some [.agg (wA .u8 64 (key2 (bL a o l)))]) ?_ (fun e s h=>⟨h.1,_,h.2,rfl⟩)
  unfold key2
  rw[bL_len]
  by_cases h:l≤64
  · rw [if_pos h]
    refine(bk2su g0 g1 t a o l cp (fun _=>undef) hb hz hcp h).mono ?_
    rintro e s ⟨rfl,j,c,ch,rfl⟩
    exact⟨rfl,by kernel_rfl⟩
  · rw [if_neg h, ← sum2_sh hb hl, ← bL_wA (n := 32) (L := sum2 a o l) (by rw [sum2_sh hb hl]; exact sh2_len _)]
    refine(bk2gu g0 g1 t a o l cp (fun _=>undef) hb hz hcp ⟨by omega,hl⟩).mono ?_
    rintro e s ⟨rfl,j,c,ch,rfl⟩
    exact⟨rfl,by kernel_rfl⟩
theorem BlockN2_c (g0 g1:Tq):Reads Tryd.prog 34 [(wA .u32 64 kL2,g0),(wA .u64 80 kL5,g1)] [.slice none 0 0] (.agg (wA .u8 64 (key2 []))) 2:=by
  refine reads_runs (fk:=2000002) (yty.enm tabS8 [mEnd] 2000002) Tryd.func34 (c:=bdy Tryd.f34) (by kernel_rfl) ⟨len2 _ _,by decide⟩ (args:= [.slice none 0 0]) (by kernel_rfl) (K:=fun e s=>e= .ret∧resS (yty.enm tabS8 [mEnd] 2000002) s Tryd.f34.results.toList=some [.agg (wA .u8 64 (key2 []))]) ?_ (fun e s h=>⟨h.1,_,h.2,rfl⟩)
  refine(bk2nu g0 g1 (fun _=>undef)).mono ?_
  rintro e s ⟨rfl,j,c,ch,rfl⟩
  exact⟨rfl,by kernel_rfl⟩
def key5 (N:List Int):List Int:=if N.length≤128 then N else sh5 N
def bk5nA_h (i:Nat):Hn:=⟨0,[],[],[],[]⟩
abbrev bk5nA_R (w:List Nat) (S:FS) (e:Exit) (K:FS→Prop):Prop:=Rn Tryd.prog (cAt w (bdy Tryd.f35)) S e K 2000002
structure bk5nA_c (g0 g1:Tq):Prop where
variable {k_4:bk5nA_c g0 g1}
abbrev bk5nA (_:bk5nA_c g0 g1):FS:=⟨true,15,[(0,.slice none 0 0)],[((wA .u32 64 kL2),g0),((wA .u64 80 kL5),g1)]⟩
abbrev bk5nB (_:bk5nA_c g0 g1):FS:=⟨false,15,[(0,.slice none 0 0),(2,.pointer (some ⟨2,0,none⟩))],[((wA .u32 64 kL2),g0),((wA .u64 80 kL5),g1),((wA .u8 128 []),(53,(0,0)))]⟩
abbrev bk5nC (_:bk5nA_c g0 g1):FS:=⟨false,15,[(0,.slice none 0 0),(2,.pointer (some ⟨2,0,none⟩)),(3,.pointer (some ⟨3,0,none⟩))],[((wA .u32 64 kL2),g0),((wA .u64 80 kL5),g1),((wA .u8 128 []),(53,(0,0))),((wA .u8 128 []),(53,(0,0)))]⟩
theorem bk5n0:bk5nA_R [0] (bk5nA k_4) .normal (fun z_=>z_=bk5nB k_4):=rn_ev (yty.enm tabS8 [mEnd] 2000002) bk5nA_h mixed _ none [] [] 0 (fun j M=>by kernel_rfl) A0 rfl
theorem bk5n1:bk5nA_R [1,0] (bk5nB k_4) .normal (fun z_=>z_=bk5nC k_4):=rn_ev (yty.enm tabS8 [mEnd] 2000002) bk5nA_h mixed _ none [] [] 0 (fun j M=>by kernel_rfl) A0 rfl
theorem bk5n2:bk5nA_R [1,1,0] (bk5nC k_4) .normal (fun z_=>z_=bk5nC k_4):=rn_ev (yty.enm tabS8 [mEnd] 2000002) bk5nA_h mixed _ none [] [] 3 (fun j M=>by kernel_rfl) A0 rfl
abbrev bk5nE (_:bk5nA_c g0 g1):FS:=⟨false,15,[(2,.pointer (some ⟨2,0,none⟩)),(3,.pointer (some ⟨3,0,none⟩))],[((wA .u32 64 kL2),g0),((wA .u64 80 kL5),g1),((wA .u8 128 []),(53,(0,0))),((wA .u8 128 ([]:List Int)),(53,(0,0)))]⟩
theorem bk5n3:bk5nA_R [1,1,1,0] (bk5nC k_4) .normal (fun z_=>z_=bk5nE k_4):=rn_ev (yty.enm tabS8 [mEnd] 2000002) bk5nA_h mixed _ none [] [] 3 (fun j M=>by kernel_rfl) A0 rfl
abbrev bk5nG (_:bk5nA_c g0 g1):FS:=⟨false,15,[(2,.pointer (some ⟨2,0,none⟩))],[((wA .u32 64 kL2),g0),((wA .u64 80 kL5),g1),((wA .u8 128 ([]:List Int)),(53,(0,0))),((wA .u8 128 ([]:List Int)),(53,(0,0)))]⟩
theorem bk5n4:bk5nA_R [1,1,1,1] (bk5nE k_4) .ret (fun z_=>z_=bk5nG k_4):=rn_ev (yty.enm tabS8 [mEnd] 2000002) bk5nA_h mixed _ none [] [(2,((wA .u8 128 ([]:List Int)).all (fun v=>v.oneCell')=true))] 0 (fun j M=>by kernel_rfl) (A1 (wA_one _ _ _) A0) rfl
theorem bk5nu':bk5nA_R [] (bk5nA k_4) .ret (fun z_=>z_=bk5nG k_4):=by
  refine rn_seq (w:= []) (by kernel_rfl) bk5n0 ?_
  rintro _ rfl
  refine rn_seq (w:= [1]) (by kernel_rfl) bk5n1 ?_
  rintro _ rfl
  refine rn_seq (w:= [1,1]) (by kernel_rfl) bk5n2 ?_
  rintro _ rfl
  refine rn_seq (w:= [1,1,1]) (by kernel_rfl) bk5n3 ?_
  rintro _ rfl
  exact bk5n4
abbrev bk5nA_s (g0 g1:Tq) (j:Nat→Value):List Value:=([.slice none 0 0] ++ (JU 14))
abbrev bk5nA_m (g0 g1:Tq):List Mb:= [((wA .u32 64 kL2),g0),((wA .u64 80 kL5),g1)]
abbrev bk5nG_s (g0 g1:Tq) (j:Nat→Value):List Value:=([j 0,j 1,.pointer (some ⟨2,0,none⟩)] ++ (J j 3 12))
abbrev bk5nG_m (g0 g1:Tq):List Mb:= [((wA .u32 64 kL2),g0),((wA .u64 80 kL5),g1),((wA .u8 128 ([]:List Int)),(53,(0,0))),((wA .u8 128 ([]:List Int)),(53,(0,0)))]
theorem bk5nu (g0 g1:Tq) (j:Nat→Value)   :Runs Tryd.prog (cAt [] (bdy Tryd.f35)) ⟨bk5nA_s g0 g1 j,bk5nA_m g0 g1,c0,ch0⟩ (fun e s=>e= .ret∧∃j c ch,s=⟨bk5nG_s g0 g1 j,bk5nG_m g0 g1,c,ch⟩) 2000002:=by
  refine(Rn.old (bk5nu' (k_4:=(⟨⟩:bk5nA_c g0 g1))) j (by kernel_rfl)).mono ?_
  rintro e s ⟨rfl,_,rfl,j,c,ch,rfl⟩
  exact⟨rfl,j,c,ch,by kernel_rfl⟩
def bk5sA_h (i:Nat):Hn:=⟨0,[],[],[],[]⟩
abbrev bk5sA_R (w:List Nat) (S:FS) (e:Exit) (K:FS→Prop):Prop:=Rn Tryd.prog (cAt w (bdy Tryd.f35)) S e K 2000003
structure bk5sA_c (g0 g1 t:Tq) (a:Array Value) (o l cp:Nat):Prop where
  hb:bytesAt a o l
  hz:o+l≤a.size
  hcp:l≤cp
  hl:l≤128
variable {k_5:bk5sA_c g0 g1 t a o l cp}
abbrev bk5sA (_:bk5sA_c g0 g1 t a o l cp):FS:=⟨true,15,[(0,.slice (some ⟨2,o,none⟩) l cp)],[((wA .u32 64 kL2),g0),((wA .u64 80 kL5),g1),(a,t)]⟩
abbrev bk5sB (_:bk5sA_c g0 g1 t a o l cp):FS:=⟨false,15,[(0,.slice (some ⟨2,o,none⟩) l cp),(2,.pointer (some ⟨3,0,none⟩))],[((wA .u32 64 kL2),g0),((wA .u64 80 kL5),g1),(a,t),((wA .u8 128 []),(53,(0,0)))]⟩
abbrev bk5sC (_:bk5sA_c g0 g1 t a o l cp):FS:=⟨false,15,[(0,.slice (some ⟨2,o,none⟩) l cp),(2,.pointer (some ⟨3,0,none⟩)),(3,.pointer (some ⟨4,0,none⟩))],[((wA .u32 64 kL2),g0),((wA .u64 80 kL5),g1),(a,t),((wA .u8 128 []),(53,(0,0))),((wA .u8 128 []),(53,(0,0)))]⟩
theorem bk5s0:bk5sA_R [0] (bk5sA k_5) .normal (fun z_=>z_=bk5sB k_5):=rn_ev (yty.enm tabS8 [mEnd] 2000003) bk5sA_h mixed _ none [] [] 0 (fun j M=>by kernel_rfl) A0 rfl
theorem bk5s1:bk5sA_R [1,0] (bk5sB k_5) .normal (fun z_=>z_=bk5sC k_5):=rn_ev (yty.enm tabS8 [mEnd] 2000003) bk5sA_h mixed _ none [] [] 0 (fun j M=>by kernel_rfl) A0 rfl
theorem bk5s2:bk5sA_R [1,1,0] (bk5sC k_5) .normal (fun z_=>z_=bk5sC k_5):=by
  have⟨hb,hz,hcp,hl⟩:=id k_5
  exact rn_ev (yty.enm tabS8 [mEnd] 2000003) bk5sA_h mixed _ none [some (.bool false)] [(5,(decide (128<(l:Int)))=false)] 0 (fun j M=>by kernel_rfl) (A1 (decide_eq_false (by omega)) A0) rfl
abbrev bk5sE (_:bk5sA_c g0 g1 t a o l cp):FS:=⟨false,15,[(2,.pointer (some ⟨3,0,none⟩)),(3,.pointer (some ⟨4,0,none⟩))],[((wA .u32 64 kL2),g0),((wA .u64 80 kL5),g1),(a,t),((wA .u8 128 []),(53,(0,0))),((wA .u8 128 (bL a o l)),(53,(0,0)))]⟩
theorem bk5s3:bk5sA_R [1,1,1,0] (bk5sC k_5) .normal (fun z_=>z_=bk5sE k_5):=by
  have⟨hb,hz,hcp,hl⟩:=id k_5
  exact rn_ev (yty.enm tabS8 [mEnd] 2000003) bk5sA_h mixed _ none [some (.agg (wA .u8 128 (bL a o l)))] [(4,((0+Nat.min l 128≤(wA .u8 128 []).size∧o+Nat.min l 128≤a.size)∧(a.extract o (o+Nat.min l 128)).all (fun v=>v.oneCell')=true∧Calm.splice (wA .u8 128 []) 0 (a.extract o (o+Nat.min l 128))=(wA .u8 128 (bL a o l))))] 0 (fun j M=>by kernel_rfl) (A1 (by have e:Nat.min l 128=l:=Nat.min_eq_left (by omega);rw[e];exact cp_ok hb hz hl) A0) rfl
abbrev bk5sG (_:bk5sA_c g0 g1 t a o l cp):FS:=⟨false,15,[(2,.pointer (some ⟨3,0,none⟩))],[((wA .u32 64 kL2),g0),((wA .u64 80 kL5),g1),(a,t),((wA .u8 128 (bL a o l)),(53,(0,0))),((wA .u8 128 (bL a o l)),(53,(0,0)))]⟩
theorem bk5s4:bk5sA_R [1,1,1,1] (bk5sE k_5) .ret (fun z_=>z_=bk5sG k_5):=rn_ev (yty.enm tabS8 [mEnd] 2000003) bk5sA_h mixed _ none [] [(2,((wA .u8 128 (bL a o l)).all (fun v=>v.oneCell')=true))] 0 (fun j M=>by kernel_rfl) (A1 (wA_one _ _ _) A0) rfl
theorem bk5su':bk5sA_R [] (bk5sA k_5) .ret (fun z_=>z_=bk5sG k_5):=by
  refine rn_seq (w:= []) (by kernel_rfl) bk5s0 ?_
  rintro _ rfl
  refine rn_seq (w:= [1]) (by kernel_rfl) bk5s1 ?_
  rintro _ rfl
  refine rn_seq (w:= [1,1]) (by kernel_rfl) bk5s2 ?_
  rintro _ rfl
  refine rn_seq (w:= [1,1,1]) (by kernel_rfl) bk5s3 ?_
  rintro _ rfl
  exact bk5s4
abbrev bk5sA_s (g0 g1 t:Tq) (a:Array Value) (o l cp:Nat) (j:Nat→Value):List Value:=([.slice (some ⟨2,o,none⟩) l cp] ++ (JU 14))
abbrev bk5sA_m (g0 g1 t:Tq) (a:Array Value) (o l cp:Nat):List Mb:= [((wA .u32 64 kL2),g0),((wA .u64 80 kL5),g1),(a,t)]
abbrev bk5sG_s (g0 g1 t:Tq) (a:Array Value) (o l cp:Nat) (j:Nat→Value):List Value:=([j 0,j 1,.pointer (some ⟨3,0,none⟩)] ++ (J j 3 12))
abbrev bk5sG_m (g0 g1 t:Tq) (a:Array Value) (o l cp:Nat):List Mb:= [((wA .u32 64 kL2),g0),((wA .u64 80 kL5),g1),(a,t),((wA .u8 128 (bL a o l)),(53,(0,0))),((wA .u8 128 (bL a o l)),(53,(0,0)))]
theorem bk5su (g0 g1 t:Tq) (a:Array Value) (o l cp:Nat) (j:Nat→Value) (hb:bytesAt a o l) (hz:o+l≤a.size) (hcp:l≤cp) (hl:l≤128)  :Runs Tryd.prog (cAt [] (bdy Tryd.f35)) ⟨bk5sA_s g0 g1 t a o l cp j,bk5sA_m g0 g1 t a o l cp,c0,ch0⟩ (fun e s=>e= .ret∧∃j c ch,s=⟨bk5sG_s g0 g1 t a o l cp j,bk5sG_m g0 g1 t a o l cp,c,ch⟩) 2000003:=by
  refine(Rn.old (bk5su' (k_5:=(⟨hb,hz,hcp,hl⟩:bk5sA_c g0 g1 t a o l cp))) j (by kernel_rfl)).mono ?_
  rintro e s ⟨rfl,_,rfl,j,c,ch,rfl⟩
  exact⟨rfl,j,c,ch,by kernel_rfl⟩
def bk5gA_h (i:Nat):Hn:=⟨0,[],[],[],[]⟩
abbrev bk5gA_R (w:List Nat) (S:FS) (e:Exit) (K:FS→Prop):Prop:=Rn Tryd.prog (cAt w (bdy Tryd.f35)) S e K 2000003
structure bk5gA_c (g0 g1 t:Tq) (a:Array Value) (o l cp:Nat):Prop where
  hb:bytesAt a o l
  hz:o+l≤a.size
  hcp:l≤cp
  hl:128<l∧l≤1000000000
variable {k_6:bk5gA_c g0 g1 t a o l cp}
abbrev bk5gA (_:bk5gA_c g0 g1 t a o l cp):FS:=⟨true,15,[(0,.slice (some ⟨2,o,none⟩) l cp)],[((wA .u32 64 kL2),g0),((wA .u64 80 kL5),g1),(a,t)]⟩
abbrev bk5gB (_:bk5gA_c g0 g1 t a o l cp):FS:=⟨false,15,[(0,.slice (some ⟨2,o,none⟩) l cp),(2,.pointer (some ⟨3,0,none⟩))],[((wA .u32 64 kL2),g0),((wA .u64 80 kL5),g1),(a,t),((wA .u8 128 []),(53,(0,0)))]⟩
abbrev bk5gC (_:bk5gA_c g0 g1 t a o l cp):FS:=⟨false,15,[(0,.slice (some ⟨2,o,none⟩) l cp),(2,.pointer (some ⟨3,0,none⟩)),(3,.pointer (some ⟨4,0,none⟩))],[((wA .u32 64 kL2),g0),((wA .u64 80 kL5),g1),(a,t),((wA .u8 128 []),(53,(0,0))),((wA .u8 128 []),(53,(0,0)))]⟩
theorem bk5g0:bk5gA_R [0] (bk5gA k_6) .normal (fun z_=>z_=bk5gB k_6):=rn_ev (yty.enm tabS8 [mEnd] 2000003) bk5gA_h mixed _ none [] [] 0 (fun j M=>by kernel_rfl) A0 rfl
theorem bk5g1:bk5gA_R [1,0] (bk5gB k_6) .normal (fun z_=>z_=bk5gC k_6):=rn_ev (yty.enm tabS8 [mEnd] 2000003) bk5gA_h mixed _ none [] [] 0 (fun j M=>by kernel_rfl) A0 rfl
abbrev bk5gD (_:bk5gA_c g0 g1 t a o l cp):FS:=⟨false,15,[(0,.slice (some ⟨5,0,none⟩) 64 64),(2,.pointer (some ⟨3,0,none⟩)),(3,.pointer (some ⟨4,0,none⟩))],[((wA .u32 64 kL2),g0),((wA .u64 80 kL5),g1),(a,t),((wA .u8 128 []),(53,(0,0))),((wA .u8 128 []),(53,(0,0))),((wA .u8 64 (sum5 a o l)),(29,(0,0)))]⟩
theorem bk5g2:bk5gA_R [1,1,0] (bk5gC k_6) .normal (fun z_=>z_=bk5gD k_6):=by
  have⟨hb,hz,hcp,hl⟩:=id k_6
  exact rn_ev (yty.enm tabS8 [mEnd] 2000003) bk5gA_h mixed _ none [some (.bool true)] [(5,(decide (128<(l:Int)))=true),(2,((wA .u32 64 kL2)=wA .u32 64 kL2∧(wA .u64 80 kL5)=wA .u64 80 kL5∧bytesAt a o l∧o+l≤a.size∧l≤cp∧l<1152921504606846976)),(0,((wA .u8 64 (sum5 a o l)).all (fun v=>v.oneCell')=true))] 2 (fun j M=>by kernel_rfl) (A1 (decide_eq_true (by omega)) (A1 ⟨rfl,rfl,hb,hz,hcp,by omega⟩ (A1 (wA_one _ _ _) A0))) rfl
abbrev bk5gF (_:bk5gA_c g0 g1 t a o l cp):FS:=⟨false,15,[(2,.pointer (some ⟨3,0,none⟩)),(3,.pointer (some ⟨4,0,none⟩))],[((wA .u32 64 kL2),g0),((wA .u64 80 kL5),g1),(a,t),((wA .u8 128 []),(53,(0,0))),((wA .u8 128 (bL (wA .u8 64 (sum5 a o l)) 0 64)),(53,(0,0))),((wA .u8 64 (sum5 a o l)),(29,(0,0)))]⟩
theorem bk5g3:bk5gA_R [1,1,1,0] (bk5gD k_6) .normal (fun z_=>z_=bk5gF k_6):=by
  have⟨hb,hz,hcp,hl⟩:=id k_6
  exact rn_ev (yty.enm tabS8 [mEnd] 2000003) bk5gA_h mixed _ none [some (.agg (wA .u8 128 (bL (wA .u8 64 (sum5 a o l)) 0 64)))] [(4,((0+Nat.min 64 128≤(wA .u8 128 []).size∧0+Nat.min 64 128≤(wA .u8 64 (sum5 a o l)).size)∧((wA .u8 64 (sum5 a o l)).extract 0 (0+Nat.min 64 128)).all (fun v=>v.oneCell')=true∧Calm.splice (wA .u8 128 []) 0 ((wA .u8 64 (sum5 a o l)).extract 0 (0+Nat.min 64 128))=(wA .u8 128 (bL (wA .u8 64 (sum5 a o l)) 0 64))))] 0 (fun j M=>by kernel_rfl) (A1 (cp_ok (by rw[sum5_sh hb hl.2];exact bytes_wA (sh5_bt _)) (by rw[wA_size];decide) (by decide)) A0) rfl
abbrev bk5gG (_:bk5gA_c g0 g1 t a o l cp):FS:=⟨false,15,[(2,.pointer (some ⟨3,0,none⟩))],[((wA .u32 64 kL2),g0),((wA .u64 80 kL5),g1),(a,t),((wA .u8 128 (bL (wA .u8 64 (sum5 a o l)) 0 64)),(53,(0,0))),((wA .u8 128 (bL (wA .u8 64 (sum5 a o l)) 0 64)),(53,(0,0))),((wA .u8 64 (sum5 a o l)),(29,(0,0)))]⟩
theorem bk5g4:bk5gA_R [1,1,1,1] (bk5gF k_6) .ret (fun z_=>z_=bk5gG k_6):=rn_ev (yty.enm tabS8 [mEnd] 2000003) bk5gA_h mixed _ none [] [(2,((wA .u8 128 (bL (wA .u8 64 (sum5 a o l)) 0 64)).all (fun v=>v.oneCell')=true))] 0 (fun j M=>by kernel_rfl) (A1 (wA_one _ _ _) A0) rfl
theorem bk5gu':bk5gA_R [] (bk5gA k_6) .ret (fun z_=>z_=bk5gG k_6):=by
  refine rn_seq (w:= []) (by kernel_rfl) bk5g0 ?_
  rintro _ rfl
  refine rn_seq (w:= [1]) (by kernel_rfl) bk5g1 ?_
  rintro _ rfl
  refine rn_seq (w:= [1,1]) (by kernel_rfl) bk5g2 ?_
  rintro _ rfl
  refine rn_seq (w:= [1,1,1]) (by kernel_rfl) bk5g3 ?_
  rintro _ rfl
  exact bk5g4
abbrev bk5gA_s (g0 g1 t:Tq) (a:Array Value) (o l cp:Nat) (j:Nat→Value):List Value:=([.slice (some ⟨2,o,none⟩) l cp] ++ (JU 14))
abbrev bk5gA_m (g0 g1 t:Tq) (a:Array Value) (o l cp:Nat):List Mb:= [((wA .u32 64 kL2),g0),((wA .u64 80 kL5),g1),(a,t)]
abbrev bk5gG_s (g0 g1 t:Tq) (a:Array Value) (o l cp:Nat) (j:Nat→Value):List Value:=([j 0,j 1,.pointer (some ⟨3,0,none⟩)] ++ (J j 3 12))
abbrev bk5gG_m (g0 g1 t:Tq) (a:Array Value) (o l cp:Nat):List Mb:= [((wA .u32 64 kL2),g0),((wA .u64 80 kL5),g1),(a,t),((wA .u8 128 (bL (wA .u8 64 (sum5 a o l)) 0 64)),(53,(0,0))),((wA .u8 128 (bL (wA .u8 64 (sum5 a o l)) 0 64)),(53,(0,0))),((wA .u8 64 (sum5 a o l)),(29,(0,0)))]
theorem bk5gu (g0 g1 t:Tq) (a:Array Value) (o l cp:Nat) (j:Nat→Value) (hb:bytesAt a o l) (hz:o+l≤a.size) (hcp:l≤cp) (hl:128<l∧l≤1000000000)  :Runs Tryd.prog (cAt [] (bdy Tryd.f35)) ⟨bk5gA_s g0 g1 t a o l cp j,bk5gA_m g0 g1 t a o l cp,c0,ch0⟩ (fun e s=>e= .ret∧∃j c ch,s=⟨bk5gG_s g0 g1 t a o l cp j,bk5gG_m g0 g1 t a o l cp,c,ch⟩) 2000003:=by
  refine(Rn.old (bk5gu' (k_6:=(⟨hb,hz,hcp,hl⟩:bk5gA_c g0 g1 t a o l cp))) j (by kernel_rfl)).mono ?_
  rintro e s ⟨rfl,_,rfl,j,c,ch,rfl⟩
  exact⟨rfl,j,c,ch,by kernel_rfl⟩
theorem Block5_c (g0 g1 t:Tq) (a:Array Value) (o l cp:Nat) (hb:bytesAt a o l) (hz:o+l≤a.size) (hcp:l≤cp) (hl:l≤1000000000):Reads Tryd.prog 35 [(wA .u32 64 kL2,g0),(wA .u64 80 kL5,g1),(a,t)] [.slice (some ⟨2,o,none⟩) l cp] (.agg (wA .u8 128 (key5 (bL a o l)))) 2:=by
  refine reads_runs (fk:=2000003) (yty.enm tabS8 [mEnd] 2000003) Tryd.func35 (c:=bdy Tryd.f35) (by kernel_rfl) ⟨len3 _ _ _,by decide⟩ (args:= [.slice (some ⟨2,o,none⟩) l cp]) (by kernel_rfl) (K:=fun e s=>e= .ret∧resS (yty.enm tabS8 [mEnd] 2000003) s Tryd.f35.results.toList=some [.agg (wA .u8 128 (key5 (bL a o l)))]) ?_ (fun e s h=>⟨h.1,_,h.2,rfl⟩)
  unfold key5
  rw[bL_len]
  by_cases h:l≤128
  · rw [if_pos h]
    refine(bk5su g0 g1 t a o l cp (fun _=>undef) hb hz hcp h).mono ?_
    rintro e s ⟨rfl,j,c,ch,rfl⟩
    exact⟨rfl,by kernel_rfl⟩
  · rw [if_neg h, ← sum5_sh hb hl, ← bL_wA (n := 64) (L := sum5 a o l) (by rw [sum5_sh hb hl]; exact sh5_len _)]
    refine(bk5gu g0 g1 t a o l cp (fun _=>undef) hb hz hcp ⟨by omega,hl⟩).mono ?_
    rintro e s ⟨rfl,j,c,ch,rfl⟩
    exact⟨rfl,by kernel_rfl⟩
theorem BlockN5_c (g0 g1:Tq):Reads Tryd.prog 35 [(wA .u32 64 kL2,g0),(wA .u64 80 kL5,g1)] [.slice none 0 0] (.agg (wA .u8 128 (key5 []))) 2:=by
  refine reads_runs (fk:=2000002) (yty.enm tabS8 [mEnd] 2000002) Tryd.func35 (c:=bdy Tryd.f35) (by kernel_rfl) ⟨len2 _ _,by decide⟩ (args:= [.slice none 0 0]) (by kernel_rfl) (K:=fun e s=>e= .ret∧resS (yty.enm tabS8 [mEnd] 2000002) s Tryd.f35.results.toList=some [.agg (wA .u8 128 (key5 []))]) ?_ (fun e s h=>⟨h.1,_,h.2,rfl⟩)
  refine(bk5nu g0 g1 (fun _=>undef)).mono ?_
  rintro e s ⟨rfl,j,c,ch,rfl⟩
  exact⟨rfl,by kernel_rfl⟩
end Go.Proofs.YtcfnjcacdmkgbaaDoor
