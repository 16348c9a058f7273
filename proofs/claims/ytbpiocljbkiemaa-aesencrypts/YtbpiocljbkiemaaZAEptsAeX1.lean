import Derived.Test.YtbpiocljbkiemaaZAEptsAeG
import Derived.Test.YtbpiocljbkiemaaZAEptsAeD
import Derived.Test.YtbpiocljbkiemaaZAEptsAeH
set_option linter.unusedSimpArgs false
set_option linter.unusedVariables false
/-! aes: the document's words are the program's. -/
namespace Go.Proofs.Ytbpiocljbkiemaa
open Go.RowKit Go.Ev
theorem dw_0 (K:List Int):∀ i,i≤8→dw K i=wd0 K i
  |0,_=>rfl
  | i + 1, h => by
    have hn:∀ Y p,nb K Y i p=K.getD (4*i+p) 0:=fun Y p=>by unfold nb;rw[if_pos (by omega)]
    rw[dw,dw_0 K i (by omega),← wd0_step]
    simp only[dwp,hn]
    simp
theorem getD_a {Y M:List Int} {k:Nat} (h:k<Y.length):(Y ++ M).getD k 0=Y.getD k 0:=by rw[getD_app,if_pos h]
theorem nb_app {K Y M:List Int} {i p:Nat} (hl:Y.length=4*i) (hi:8≤i) (hp:p<4):nb K (Y ++ M) i p=nb K Y i p:=by
  unfold nb cx
  rw[getD_a (by omega),getD_a (by omega),getD_a (by omega)]
theorem rc_tw {i:Nat} (h:i<60):rcV i=twk (i / 8 - 1):=by
  have h':∀ m:Fin 7,IntKind.u8.wrap (1*2 ^ (min (Int.toNat ((m.1:Nat):Int)) 8))=twk m.1:=by decide+kernel
  exact h' ⟨i / 8 - 1,by omega⟩
theorem cx_chg (Y:List Int) {i p:Nat} (hp:p<4) (hi:i<60):cx Y i p=(chgL (w4 Y (i - 1)) i).getD p 0:=by
  unfold cx chgL
  by_cases h0:i%8=0
  · rw [if_pos h0, if_pos h0]
    unfold rcL
    rw[rc_tw hi]
    match p,hp with
    |0,_=>rfl
    |1,_=>rfl
    |2,_=>rfl
    |3,_=>rfl
  · rw [if_neg h0, if_neg h0]
    by_cases h4:i%8=4
    · rw [if_pos h4, if_pos h4]
      match p,hp with
      |0,_=>rfl
      |1,_=>rfl
      |2,_=>rfl
      |3,_=>rfl
    · rw [if_neg h4, if_neg h4]
      match p,hp with
      |0,_=>rfl
      |1,_=>rfl
      |2,_=>rfl
      |3,_=>rfl
theorem nb_s (K Y:List Int) {i p:Nat} (h8:8≤i) (hi:i<60) (hp:p<4):nb K Y i p=(sumL (w4 Y (i - 8)) (chgL (w4 Y (i - 1)) i)).getD p 0:=by
  unfold nb
  rw[if_neg (by omega),cx_chg Y hp hi]
  match p,hp with
  |0,_=>rfl
  |1,_=>rfl
  |2,_=>rfl
  |3,_=>rfl
theorem sumL_4 (B C:List Int): [(sumL B C).getD 0 0] ++ ([(sumL B C).getD 1 0] ++ ([(sumL B C).getD 2 0] ++ [(sumL B C).getD 3 0]))=(sumL B C).take 4:=rfl
theorem dw_wd (K:List Int) (n:Nat):n≤52→dw K (n+8)=wdI K n:=by
  induction n with
  |zero=>intro _;exact dw_0 K 8 (by omega)
  | succ n ih =>
    intro h
    have hl:=dw_len K (n+8)
    rw[show n+1+8=n+8+1 by omega,dw,wdI,← ih (by omega)]
    simp only[dwp]
    have h1:∀ M p,p<4→nb K (dw K (n+8) ++ M) (n+8) p=nb K (dw K (n+8)) (n+8) p:=fun M p hp=>nb_app hl (by omega) hp
    simp only[List.append_assoc,h1 _ 1 (by omega),h1 _ 2 (by omega),h1 _ 3 (by omega)]
    refine congrArg (fun z=>dw K (n+8) ++ z) ?_
    rw[nb_s K _ (p:=0) (by omega) (by omega) (by omega),nb_s K _ (p:=1) (by omega) (by omega) (by omega),nb_s K _ (p:=2) (by omega) (by omega) (by omega),nb_s K _ (p:=3) (by omega) (by omega) (by omega)]
    rw[show n+8 - 8=n by omega,show n+8 - 1=n+7 by omega]
    exact sumL_4 _ _
theorem dw_wdF (K:List Int):dw K 60=wdF K:=dw_wd K 52 (by omega)
end Go.Proofs.Ytbpiocljbkiemaa

set_option linter.unusedSimpArgs false
set_option linter.unusedVariables false
/-! aes: blocks enciphered are the same. -/
namespace Go.Proofs.Ytbpiocljbkiemaa
open Go.RowKit Go.Ev
theorem by_nat {E:List Int} (h:By E) (k:Nat):∃ n:Nat,E.getD k 0=((n:Nat):Int)∧n<256:=by
  have:=h k
  exact⟨(E.getD k 0).toNat,by omega,by omega⟩
theorem mv1 {n:Nat} (h:n<256):mv 1 (n:Int)=((n:Nat):Int):=by
  have e:mu 1 n=n:=(mu_comm (by decide) h).trans (mu_one h)
  show((mu 1 (Int.toNat ((n:Nat):Int)):Nat):Int)=_
  rw[Int.toNat_natCast,e]
theorem mu2 {n:Nat} (h:n<256):mu 2 n=twN n:=lin_ext (mu_b 2) tw_lin (by decide+kernel) h
theorem mv2 {n:Nat} (h:n<256):mv 2 (n:Int)=((twN n:Nat):Int):=by
  show((mu 2 (Int.toNat ((n:Nat):Int)):Nat):Int)=_
  rw[Int.toNat_natCast,mu2 h]
theorem mv3 {n:Nat} (h:n<256):mv 3 (n:Int)=((twN n ^^^ n:Nat):Int):=by
  have e:mu 3 n=twN n ^^^ n:=by
    have h3:mu (2 ^^^ 1) n=mu 2 n ^^^ mu 1 n:=mu_a n 2 1
    rw[mu2 h,(mu_comm (by decide) h).trans (mu_one h)] at h3
    exact h3
  show((mu 3 (Int.toNat ((n:Nat):Int)):Nat):Int)=_
  rw[Int.toNat_natCast,e]
theorem x_lt {a b:Nat} (ha:a<256) (hb:b<256):a ^^^ b<256:=Nat.xor_lt_two_pow (n:=8) ha hb
def mcN (a b c d:Nat):Nat:=(a ^^^ (((a ^^^ b) ^^^ c) ^^^ d)) ^^^ twN (a ^^^ b)
theorem mcN_eq (a b c d:Nat):mcN a b c d=(((0 ^^^ twN a) ^^^ (twN b ^^^ b)) ^^^ c) ^^^ d:=by
  unfold mcN
  rw[tw_lin,Nat.zero_xor]
  have h1:a ^^^ (((a ^^^ b) ^^^ c) ^^^ d)=(b ^^^ c) ^^^ d:=by
    rw[Nat.xor_assoc,Nat.xor_assoc,← Nat.xor_assoc a a,Nat.xor_self,Nat.zero_xor,← Nat.xor_assoc]
  rw[h1]
  ac_rfl
theorem mrow0 {a b c d:Nat} (ha:a<256) (hb:b<256) (hc:c<256) (hd:d<256):bits .xor .u8 (bits .xor .u8 (bits .xor .u8 (bits .xor .u8 0 (mv 2 (a:Int))) (mv 3 (b:Int))) (mv 1 (c:Int))) (mv 1 (d:Int))=((((0 ^^^ twN a) ^^^ (twN b ^^^ b)) ^^^ c) ^^^ d:Nat):=by
  have ta:=twN_lt ha;have tb:=x_lt (twN_lt hb) hb
  rw[mv2 ha,mv3 hb,mv1 hc,mv1 hd,show(0:Int)=((0:Nat):Int) from rfl,x8 _ _ (by decide) ta,x8 _ _ (x_lt (by decide) ta) tb,x8 _ _ (x_lt (x_lt (by decide) ta) tb) hc,x8 _ _ (x_lt (x_lt (x_lt (by decide) ta) tb) hc) hd]
theorem mrow1 {a b c d:Nat} (ha:a<256) (hb:b<256) (hc:c<256) (hd:d<256):bits .xor .u8 (bits .xor .u8 (bits .xor .u8 (bits .xor .u8 0 (mv 1 (a:Int))) (mv 2 (b:Int))) (mv 3 (c:Int))) (mv 1 (d:Int))=((((0 ^^^ a) ^^^ twN b) ^^^ (twN c ^^^ c)) ^^^ d:Nat):=by
  have tb:=twN_lt hb;have tc:=x_lt (twN_lt hc) hc
  rw[mv1 ha,mv2 hb,mv3 hc,mv1 hd,show(0:Int)=((0:Nat):Int) from rfl,x8 _ _ (by decide) ha,x8 _ _ (x_lt (by decide) ha) tb,x8 _ _ (x_lt (x_lt (by decide) ha) tb) tc,x8 _ _ (x_lt (x_lt (x_lt (by decide) ha) tb) tc) hd]
theorem mrow2 {a b c d:Nat} (ha:a<256) (hb:b<256) (hc:c<256) (hd:d<256):bits .xor .u8 (bits .xor .u8 (bits .xor .u8 (bits .xor .u8 0 (mv 1 (a:Int))) (mv 1 (b:Int))) (mv 2 (c:Int))) (mv 3 (d:Int))=((((0 ^^^ a) ^^^ b) ^^^ twN c) ^^^ (twN d ^^^ d):Nat):=by
  have tc:=twN_lt hc;have td:=x_lt (twN_lt hd) hd
  rw[mv1 ha,mv1 hb,mv2 hc,mv3 hd,show(0:Int)=((0:Nat):Int) from rfl,x8 _ _ (by decide) ha,x8 _ _ (x_lt (by decide) ha) hb,x8 _ _ (x_lt (x_lt (by decide) ha) hb) tc,x8 _ _ (x_lt (x_lt (x_lt (by decide) ha) hb) tc) td]
theorem mrow3 {a b c d:Nat} (ha:a<256) (hb:b<256) (hc:c<256) (hd:d<256):bits .xor .u8 (bits .xor .u8 (bits .xor .u8 (bits .xor .u8 0 (mv 3 (a:Int))) (mv 1 (b:Int))) (mv 1 (c:Int))) (mv 2 (d:Int))=((((0 ^^^ (twN a ^^^ a)) ^^^ b) ^^^ c) ^^^ twN d:Nat):=by
  have ta:=x_lt (twN_lt ha) ha;have td:=twN_lt hd
  rw[mv3 ha,mv1 hb,mv1 hc,mv2 hd,show(0:Int)=((0:Nat):Int) from rfl,x8 _ _ (by decide) ta,x8 _ _ (x_lt (by decide) ta) hb,x8 _ _ (x_lt (x_lt (by decide) ta) hb) hc,x8 _ _ (x_lt (x_lt (x_lt (by decide) ta) hb) hc) td]
theorem mcE_n {E:List Int} {a b c d:Nat} (ea:E.getD 0 0=(a:Int)) (eb:E.getD 1 0=(b:Int)) (ec:E.getD 2 0=(c:Int)) (ed:E.getD 3 0=(d:Int)) (ha:a<256) (hb:b<256) (hc:c<256) (hd:d<256):mcL E= [((mcN a b c d:Nat):Int),(((b ^^^ (((a ^^^ b) ^^^ c) ^^^ d)) ^^^ twN (b ^^^ c):Nat):Int),(((c ^^^ (((a ^^^ b) ^^^ c) ^^^ d)) ^^^ twN (c ^^^ d):Nat):Int),(((d ^^^ (((a ^^^ b) ^^^ c) ^^^ d)) ^^^ twN (d ^^^ a):Nat):Int)]:=by
  have hal:=x_lt (x_lt (x_lt ha hb) hc) hd
  unfold mcL mcE allX mcN
  rw [ea, eb, ec, ed, x8 a b ha hb, x8 _ c (x_lt ha hb) hc, x8 _ d (x_lt (x_lt ha hb) hc) hd, x8 b c hb hc, x8 c d hc hd, x8 d a hd ha, x8 _ _ ha hal, x8 _ _ hb hal, x8 _ _ hc hal, x8 _ _ hd hal,
    tw_eq (x_lt ha hb),tw_eq (x_lt hb hc),tw_eq (x_lt hc hd),tw_eq (x_lt hd ha),
    x8 _ _ (x_lt ha hal) (twN_lt (x_lt ha hb)),x8 _ _ (x_lt hb hal) (twN_lt (x_lt hb hc)),x8 _ _ (x_lt hc hal) (twN_lt (x_lt hc hd)),x8 _ _ (x_lt hd hal) (twN_lt (x_lt hd ha))]
def mdL (E:List Int):List Int:= [bits .xor .u8 (bits .xor .u8 (bits .xor .u8 (bits .xor .u8 0 (mv 2 (E.getD 0 0))) (mv 3 (E.getD 1 0))) (mv 1 (E.getD 2 0))) (mv 1 (E.getD 3 0)),
  bits .xor .u8 (bits .xor .u8 (bits .xor .u8 (bits .xor .u8 0 (mv 1 (E.getD 0 0))) (mv 2 (E.getD 1 0))) (mv 3 (E.getD 2 0))) (mv 1 (E.getD 3 0)),
  bits .xor .u8 (bits .xor .u8 (bits .xor .u8 (bits .xor .u8 0 (mv 1 (E.getD 0 0))) (mv 1 (E.getD 1 0))) (mv 2 (E.getD 2 0))) (mv 3 (E.getD 3 0)),
  bits .xor .u8 (bits .xor .u8 (bits .xor .u8 (bits .xor .u8 0 (mv 3 (E.getD 0 0))) (mv 1 (E.getD 1 0))) (mv 1 (E.getD 2 0))) (mv 2 (E.getD 3 0))]
theorem mdL_eq {E:List Int} (h:By E):mdL E=mcL E:=by
  obtain⟨a,ea,ha⟩:=by_nat h 0
  obtain⟨b,eb,hb⟩:=by_nat h 1
  obtain⟨c,ec,hc⟩:=by_nat h 2
  obtain⟨d,ed,hd⟩:=by_nat h 3
  rw[mcE_n ea eb ec ed ha hb hc hd]
  unfold mdL
  rw[ea,eb,ec,ed,mrow0 ha hb hc hd,mrow1 ha hb hc hd,mrow2 ha hb hc hd,mrow3 ha hb hc hd,mcN_eq]
  have r1:(((0 ^^^ a) ^^^ twN b) ^^^ (twN c ^^^ c)) ^^^ d=(b ^^^ (((a ^^^ b) ^^^ c) ^^^ d)) ^^^ twN (b ^^^ c):=by
    have:=mcN_eq b c d a
    unfold mcN at this
    rw[show((a ^^^ b) ^^^ c) ^^^ d=((b ^^^ c) ^^^ d) ^^^ a by ac_rfl,this,Nat.zero_xor,Nat.zero_xor]
    ac_rfl
  have r2:(((0 ^^^ a) ^^^ b) ^^^ twN c) ^^^ (twN d ^^^ d)=(c ^^^ (((a ^^^ b) ^^^ c) ^^^ d)) ^^^ twN (c ^^^ d):=by
    have:=mcN_eq c d a b
    unfold mcN at this
    rw[show((a ^^^ b) ^^^ c) ^^^ d=((c ^^^ d) ^^^ a) ^^^ b by ac_rfl,this,Nat.zero_xor,Nat.zero_xor]
    ac_rfl
  have r3:(((0 ^^^ (twN a ^^^ a)) ^^^ b) ^^^ c) ^^^ twN d=(d ^^^ (((a ^^^ b) ^^^ c) ^^^ d)) ^^^ twN (d ^^^ a):=by
    have:=mcN_eq d a b c
    unfold mcN at this
    rw[show((a ^^^ b) ^^^ c) ^^^ d=((d ^^^ a) ^^^ b) ^^^ c by ac_rfl,this,Nat.zero_xor,Nat.zero_xor]
    ac_rfl
  rw[r1,r2,r3]
def mxD (E:List Int):List Int:=(List.range 16).map fun i=>(mdL (colL E (i / 4*4))).getD (i%4) 0
theorem itX_mx (E:List Int):itX E 4=mxD E:=by kernel_rfl
theorem mxD_mix {E:List Int} (h:By E):mxD E=mixL E:=List.map_congr_left fun i _=>by rw[mdL_eq (colL_by h _)]
theorem shD_mov (C:List Int):shD C=movL (subL C):=by kernel_rfl
theorem shD_by (C:List Int):By (shD C):=by_ofFn fun _ _=>sbv_b _
theorem docR_enc (W B:List Int):∀ r,r≤13→docR W B r=encR W B r
  |0,_=>rfl
  | r + 1, h => by
    rw[docR,encR,docR_enc W B r (by omega)]
    unfold fin rndL
    rw[if_pos (by omega),itX_mx,mxD_mix (shD_by _),shD_mov]
theorem doc_enc (K B:List Int):docR (dw K 60) B 14=encL K B:=by
  rw[docR,docR_enc _ _ 13 (by omega),dw_wdF]
  unfold fin encL
  rw[if_neg (by omega),shD_mov]
def pdb:Entry Try.prog:=entLLT Try.func27 (by kernel_rfl) (by kernel_rfl) 32 16 (fun K B=> .agg (wA .u8 16 (encL K B))) (fun K B h1 h2=>by rw[← doc_enc];exact aEb_c K B h1 h2)
def pdw2:Entry Try.prog:=entLT Try.func21 (by kernel_rfl) (by kernel_rfl) 32 (fun K=> .agg (wA .u8 240 (wdF K))) (fun K h=>by rw[← dw_wdF];exact aDw_c K h)
def tabJ1:List (Entry Try.prog):=pdb :: pdw2 :: tabF3
theorem encL_w (K B:List Int):encL (dL8 (wA .u8 32 K)) (dL8 (wA .u8 16 B))=encL K B:=by
  have e0:addL (dL8 (wA .u8 16 B)) (wdF K) 0=addL B (wdF K) 0:=List.map_congr_left fun i hi=>by
    have hi:i<16:=by simpa using hi
    rw[dL8_wA,if_pos hi]
  have er:∀ r,encR (wdF K) (dL8 (wA .u8 16 B)) r=encR (wdF K) B r:=fun r=>by
    induction r with
    |zero=>exact e0
    |succ r ih=>rw[encR,encR,ih]
  unfold encL
  rw[wdF_w,er]
def aDE_h (i:Nat):Hn:=if i=1 then⟨4,[],[],[],[]⟩ else⟨0,[],[],[],[]⟩
def aDE_a (K B:List Int):List Value:=([.agg (wA .u8 32 K),.agg (wA .u8 16 B)] ++ (JU 7))
def aDE_b (K B:List Int):List Value:=([.agg (wA .u8 32 K),.agg (wA .u8 16 B),.pointer (some ⟨0,0,none⟩),.pointer (some ⟨1,0,none⟩),.pointer (some ⟨2,0,none⟩),.agg (wA .u8 32 K),.agg (wA .u8 16 B),.agg (wA .u8 256 sbT),.agg (wA .u8 16 (encL (dL8 (wA .u8 32 K)) (dL8 (wA .u8 16 B))))])
theorem aDE_0 (K B:List Int):evC (yty.en tabJ1) aDE_h (cAt [] (bdy Try.f16)) ⟨aDE_a K B,[],True,[]⟩=some (.ret,⟨aDE_b K B,[((wA .u8 32 K),(26,(0,0))),((wA .u8 16 B),(31,(0,0))),((wA .u8 16 (encL (dL8 (wA .u8 32 K)) (dL8 (wA .u8 16 B)))),(31,(0,0)))],(((((True∧True)∧True)∧True)∧(((wA .u8 32 K)=wA .u8 32 (dL8 (wA .u8 32 K))∧By (dL8 (wA .u8 32 K)))∧((wA .u8 16 B)=wA .u8 16 (dL8 (wA .u8 16 B))∧By (dL8 (wA .u8 16 B)))∧(wA .u8 256 sbT)=wA .u8 256 sbT))∧((wA .u8 16 (encL (dL8 (wA .u8 32 K)) (dL8 (wA .u8 16 B)))).all (fun v=>v.oneCell')=true)),[]⟩):=by kernel_rfl
theorem aDE_c (K B:List Int) (hK:By K) (hB:By B):Pure Try.prog 16 #[.agg (wA .u8 32 K),.agg (wA .u8 16 B)] (.agg (wA .u8 16 (encL K B))):=by
  refine pure_runs (E:=(yty.en tabJ1)) Try.func16 (c:=bdy Try.f16) (by kernel_rfl) (args:= [.agg (wA .u8 32 K),.agg (wA .u8 16 B)]) (by kernel_rfl) (K:=fun e s=>e= .ret∧resS (yty.en tabJ1) s Try.f16.results.toList=some [.agg (wA .u8 16 (encL K B))]) ?_ (fun e s h=>⟨h.1,_,h.2,rfl⟩)
  refine(runs_ev mixed _ (aDE_0 K B) ⟨⟨⟨⟨⟨trivial,trivial⟩,trivial⟩,trivial⟩,⟨dq hK,dq hB,rfl⟩⟩,wA_one _ _ _⟩).mono ?_
  rintro e s ⟨rfl,rfl⟩
  rw[← encL_w K B]
  exact⟨rfl,by kernel_rfl⟩
def pdE:Entry Try.prog:=entLL Try.func16 (by kernel_rfl) (by kernel_rfl) 32 16 (fun K B=> .agg (wA .u8 16 (encL K B))) (fun K B h1 h2=>aDE_c K B h1 h2)
end Go.Proofs.Ytbpiocljbkiemaa

set_option linter.unusedSimpArgs false
set_option linter.unusedVariables false
/-! aes: known, the laws. -/
namespace Go.Proofs.Ytbpiocljbkiemaa
open Go.RowKit Go.Ev
theorem isBL_wA (n:Nat) (L:List Int):isBL n (wA .u8 n L):=⟨(List.range n).map fun i=>L.getD i 0,by simp,by simp[wA,Function.comp_def]⟩
def tabK1:List (Entry Try.prog):=pmr :: psb :: prs :: pwd :: pen :: pdE :: []
def kL:List Int:=(List.range 32).map fun i=>((i:Nat):Int)
def kB:List Int:=(List.range 16).map fun i=>((17*i:Nat):Int)
theorem kL_by:By kL:=by_ofFn fun i hi=>⟨by omega,by omega⟩
theorem kB_by:By kB:=by_ofFn fun i hi=>⟨by omega,by omega⟩
def kC:List Int:= [142,162,183,202,81,103,69,191,234,252,73,144,75,73,96,137]
set_option maxRecDepth 100000 in
theorem known_val:encL kL kB=kC:=by decide+kernel
theorem kn_eq:(intsOf (wA .u8 16 (encL (dL8 (wA .u8 32 kL)) (dL8 (wA .u8 16 kB)))) == intsOf (wA .u8 16 kC))=true:=by
  rw[encL_w,known_val];exact beq_self_eq_true _
def aKn_h (i:Nat):Hn:=⟨0,[],[],[],[]⟩
def aKn_a (z:Unit):List Value:=(JU 27)
def aKn_b (z:Unit):List Value:=([.bool true,.pointer (some ⟨0,0,none⟩),.pointer (some ⟨1,0,none⟩),.int .i64 31,.int .i64 15,.int .i64 32,.bool false,.int .i64 31,.int .i64 31,.int .i64 31,.int .u8 31,.pointer (some ⟨0,31,none⟩),.int .i64 32,.int .i64 16,.bool false,.int .i64 15,.int .i64 15,.int .i64 15,.int .i64 255,.int .u8 255,.pointer (some ⟨1,15,none⟩),.int .i64 16,.agg (wA .u8 32 kL),.agg (wA .u8 16 kB),.agg (wA .u8 16 (encL (dL8 (wA .u8 32 kL)) (dL8 (wA .u8 16 kB)))),.agg (wA .u8 16 kC),.bool true])
set_option maxRecDepth 100000 in
theorem aKn_0 (z:Unit):evC (yty.en tabK1) aKn_h (cAt [] (bdy Try.f12)) ⟨aKn_a z,[],True,[none,none,some (.agg (wA .u8 32 [0,0,0,0,0,0,0,0,0,0,0,0,0,0,0,0,0,0,0,0,0,0,0,0,0,0,0,0,0,0,0,0])),none,none,none,some (.agg (wA .u8 32 [0,1,0,0,0,0,0,0,0,0,0,0,0,0,0,0,0,0,0,0,0,0,0,0,0,0,0,0,0,0,0,0])),none,none,none,some (.agg (wA .u8 32 [0,1,2,0,0,0,0,0,0,0,0,0,0,0,0,0,0,0,0,0,0,0,0,0,0,0,0,0,0,0,0,0])),none,none,none,some (.agg (wA .u8 32 [0,1,2,3,0,0,0,0,0,0,0,0,0,0,0,0,0,0,0,0,0,0,0,0,0,0,0,0,0,0,0,0])),none,none,none,some (.agg (wA .u8 32 [0,1,2,3,4,0,0,0,0,0,0,0,0,0,0,0,0,0,0,0,0,0,0,0,0,0,0,0,0,0,0,0])),none,none,none,some (.agg (wA .u8 32 [0,1,2,3,4,5,0,0,0,0,0,0,0,0,0,0,0,0,0,0,0,0,0,0,0,0,0,0,0,0,0,0])),none,none,none,some (.agg (wA .u8 32 [0,1,2,3,4,5,6,0,0,0,0,0,0,0,0,0,0,0,0,0,0,0,0,0,0,0,0,0,0,0,0,0])),none,none,none,some (.agg (wA .u8 32 [0,1,2,3,4,5,6,7,0,0,0,0,0,0,0,0,0,0,0,0,0,0,0,0,0,0,0,0,0,0,0,0])),none,none,none,some (.agg (wA .u8 32 [0,1,2,3,4,5,6,7,8,0,0,0,0,0,0,0,0,0,0,0,0,0,0,0,0,0,0,0,0,0,0,0])),none,none,none,some (.agg (wA .u8 32 [0,1,2,3,4,5,6,7,8,9,0,0,0,0,0,0,0,0,0,0,0,0,0,0,0,0,0,0,0,0,0,0])),none,none,none,some (.agg (wA .u8 32 [0,1,2,3,4,5,6,7,8,9,10,0,0,0,0,0,0,0,0,0,0,0,0,0,0,0,0,0,0,0,0,0])),none,none,none,some (.agg (wA .u8 32 [0,1,2,3,4,5,6,7,8,9,10,11,0,0,0,0,0,0,0,0,0,0,0,0,0,0,0,0,0,0,0,0])),none,none,none,some (.agg (wA .u8 32 [0,1,2,3,4,5,6,7,8,9,10,11,12,0,0,0,0,0,0,0,0,0,0,0,0,0,0,0,0,0,0,0])),none,none,none,some (.agg (wA .u8 32 [0,1,2,3,4,5,6,7,8,9,10,11,12,13,0,0,0,0,0,0,0,0,0,0,0,0,0,0,0,0,0,0])),none,none,none,some (.agg (wA .u8 32 [0,1,2,3,4,5,6,7,8,9,10,11,12,13,14,0,0,0,0,0,0,0,0,0,0,0,0,0,0,0,0,0])),none,none,none,some (.agg (wA .u8 32 [0,1,2,3,4,5,6,7,8,9,10,11,12,13,14,15,0,0,0,0,0,0,0,0,0,0,0,0,0,0,0,0])),none,none,none,some (.agg (wA .u8 32 [0,1,2,3,4,5,6,7,8,9,10,11,12,13,14,15,16,0,0,0,0,0,0,0,0,0,0,0,0,0,0,0])),none,none,none,some (.agg (wA .u8 32 [0,1,2,3,4,5,6,7,8,9,10,11,12,13,14,15,16,17,0,0,0,0,0,0,0,0,0,0,0,0,0,0])),none,none,none,some (.agg (wA .u8 32 [0,1,2,3,4,5,6,7,8,9,10,11,12,13,14,15,16,17,18,0,0,0,0,0,0,0,0,0,0,0,0,0])),none,none,none,some (.agg (wA .u8 32 [0,1,2,3,4,5,6,7,8,9,10,11,12,13,14,15,16,17,18,19,0,0,0,0,0,0,0,0,0,0,0,0])),none,none,none,some (.agg (wA .u8 32 [0,1,2,3,4,5,6,7,8,9,10,11,12,13,14,15,16,17,18,19,20,0,0,0,0,0,0,0,0,0,0,0])),none,none,none,some (.agg (wA .u8 32 [0,1,2,3,4,5,6,7,8,9,10,11,12,13,14,15,16,17,18,19,20,21,0,0,0,0,0,0,0,0,0,0])),none,none,none,some (.agg (wA .u8 32 [0,1,2,3,4,5,6,7,8,9,10,11,12,13,14,15,16,17,18,19,20,21,22,0,0,0,0,0,0,0,0,0])),none,none,none,some (.agg (wA .u8 32 [0,1,2,3,4,5,6,7,8,9,10,11,12,13,14,15,16,17,18,19,20,21,22,23,0,0,0,0,0,0,0,0])),none,none,none,some (.agg (wA .u8 32 [0,1,2,3,4,5,6,7,8,9,10,11,12,13,14,15,16,17,18,19,20,21,22,23,24,0,0,0,0,0,0,0])),none,none,none,some (.agg (wA .u8 32 [0,1,2,3,4,5,6,7,8,9,10,11,12,13,14,15,16,17,18,19,20,21,22,23,24,25,0,0,0,0,0,0])),none,none,none,some (.agg (wA .u8 32 [0,1,2,3,4,5,6,7,8,9,10,11,12,13,14,15,16,17,18,19,20,21,22,23,24,25,26,0,0,0,0,0])),none,none,none,some (.agg (wA .u8 32 [0,1,2,3,4,5,6,7,8,9,10,11,12,13,14,15,16,17,18,19,20,21,22,23,24,25,26,27,0,0,0,0])),none,none,none,some (.agg (wA .u8 32 [0,1,2,3,4,5,6,7,8,9,10,11,12,13,14,15,16,17,18,19,20,21,22,23,24,25,26,27,28,0,0,0])),none,none,none,some (.agg (wA .u8 32 [0,1,2,3,4,5,6,7,8,9,10,11,12,13,14,15,16,17,18,19,20,21,22,23,24,25,26,27,28,29,0,0])),none,none,none,some (.agg (wA .u8 32 [0,1,2,3,4,5,6,7,8,9,10,11,12,13,14,15,16,17,18,19,20,21,22,23,24,25,26,27,28,29,30,0])),none,none,none,some (.agg (wA .u8 32 kL)),none,none,none,none,none,some (.agg (wA .u8 16 [0,0,0,0,0,0,0,0,0,0,0,0,0,0,0,0])),none,none,none,none,some (.agg (wA .u8 16 [0,17,0,0,0,0,0,0,0,0,0,0,0,0,0,0])),none,none,none,none,some (.agg (wA .u8 16 [0,17,34,0,0,0,0,0,0,0,0,0,0,0,0,0])),none,none,none,none,some (.agg (wA .u8 16 [0,17,34,51,0,0,0,0,0,0,0,0,0,0,0,0])),none,none,none,none,some (.agg (wA .u8 16 [0,17,34,51,68,0,0,0,0,0,0,0,0,0,0,0])),none,none,none,none,some (.agg (wA .u8 16 [0,17,34,51,68,85,0,0,0,0,0,0,0,0,0,0])),none,none,none,none,some (.agg (wA .u8 16 [0,17,34,51,68,85,102,0,0,0,0,0,0,0,0,0])),none,none,none,none,some (.agg (wA .u8 16 [0,17,34,51,68,85,102,119,0,0,0,0,0,0,0,0])),none,none,none,none,some (.agg (wA .u8 16 [0,17,34,51,68,85,102,119,136,0,0,0,0,0,0,0])),none,none,none,none,some (.agg (wA .u8 16 [0,17,34,51,68,85,102,119,136,153,0,0,0,0,0,0])),none,none,none,none,some (.agg (wA .u8 16 [0,17,34,51,68,85,102,119,136,153,170,0,0,0,0,0])),none,none,none,none,some (.agg (wA .u8 16 [0,17,34,51,68,85,102,119,136,153,170,187,0,0,0,0])),none,none,none,none,some (.agg (wA .u8 16 [0,17,34,51,68,85,102,119,136,153,170,187,204,0,0,0])),none,none,none,none,some (.agg (wA .u8 16 [0,17,34,51,68,85,102,119,136,153,170,187,204,221,0,0])),none,none,none,none,some (.agg (wA .u8 16 [0,17,34,51,68,85,102,119,136,153,170,187,204,221,238,0])),none,none,none,none,some (.agg (wA .u8 16 kB)),none,none,some (.bool true)]⟩=some (.ret,⟨aKn_b z,[((wA .u8 32 kL),(26,(0,0))),((wA .u8 16 kB),(31,(0,0)))],(((((((((((((((((((((((((((((((((((((((((((((((((((((((((((((((((((((((((((((((((((((((((((((((((((((((((((((((((((((((((((((((((((((((((((((((((((((((((((((((((((((((((((((((((((((((((((((((((((((((((((((((((((((((((((((((((((((((((((((((((((((((((((((((((((((((((((((((((((((((((((((((((((((((((((((((((((((((((((((((((((((((((((((((((((((((((((((((((((((((((((((((((((((((((((((((((((((((((((((((((((((((((((((((((((((((((((((((((((((((((((((((((((((((((((((((((((((((((((((((((((((((((((((((((((((((((((True∧True)∧True)∧True)∧True)∧True)∧True)∧True)∧True)∧((0:Int)≤0∧(0:Int)<((32:Nat):Int)))∧(0<(wA .u8 32 []).size∧(wA .u8 32 []).setIfInBounds (0) (.int .u8 0)=(wA .u8 32 [0,0,0,0,0,0,0,0,0,0,0,0,0,0,0,0,0,0,0,0,0,0,0,0,0,0,0,0,0,0,0,0])))∧True)∧True)∧True)∧True)∧True)∧True)∧True)∧True)∧((0:Int)≤1∧(1:Int)<((32:Nat):Int)))∧(1<(wA .u8 32 [0,0,0,0,0,0,0,0,0,0,0,0,0,0,0,0,0,0,0,0,0,0,0,0,0,0,0,0,0,0,0,0]).size∧(wA .u8 32 [0,0,0,0,0,0,0,0,0,0,0,0,0,0,0,0,0,0,0,0,0,0,0,0,0,0,0,0,0,0,0,0]).setIfInBounds (1) (.int .u8 1)=(wA .u8 32 [0,1,0,0,0,0,0,0,0,0,0,0,0,0,0,0,0,0,0,0,0,0,0,0,0,0,0,0,0,0,0,0])))∧True)∧True)∧True)∧True)∧True)∧True)∧True)∧True)∧((0:Int)≤2∧(2:Int)<((32:Nat):Int)))∧(2<(wA .u8 32 [0,1,0,0,0,0,0,0,0,0,0,0,0,0,0,0,0,0,0,0,0,0,0,0,0,0,0,0,0,0,0,0]).size∧(wA .u8 32 [0,1,0,0,0,0,0,0,0,0,0,0,0,0,0,0,0,0,0,0,0,0,0,0,0,0,0,0,0,0,0,0]).setIfInBounds (2) (.int .u8 2)=(wA .u8 32 [0,1,2,0,0,0,0,0,0,0,0,0,0,0,0,0,0,0,0,0,0,0,0,0,0,0,0,0,0,0,0,0])))∧True)∧True)∧True)∧True)∧True)∧True)∧True)∧True)∧((0:Int)≤3∧(3:Int)<((32:Nat):Int)))∧(3<(wA .u8 32 [0,1,2,0,0,0,0,0,0,0,0,0,0,0,0,0,0,0,0,0,0,0,0,0,0,0,0,0,0,0,0,0]).size∧(wA .u8 32 [0,1,2,0,0,0,0,0,0,0,0,0,0,0,0,0,0,0,0,0,0,0,0,0,0,0,0,0,0,0,0,0]).setIfInBounds (3) (.int .u8 3)=(wA .u8 32 [0,1,2,3,0,0,0,0,0,0,0,0,0,0,0,0,0,0,0,0,0,0,0,0,0,0,0,0,0,0,0,0])))∧True)∧True)∧True)∧True)∧True)∧True)∧True)∧True)∧((0:Int)≤4∧(4:Int)<((32:Nat):Int)))∧(4<(wA .u8 32 [0,1,2,3,0,0,0,0,0,0,0,0,0,0,0,0,0,0,0,0,0,0,0,0,0,0,0,0,0,0,0,0]).size∧(wA .u8 32 [0,1,2,3,0,0,0,0,0,0,0,0,0,0,0,0,0,0,0,0,0,0,0,0,0,0,0,0,0,0,0,0]).setIfInBounds (4) (.int .u8 4)=(wA .u8 32 [0,1,2,3,4,0,0,0,0,0,0,0,0,0,0,0,0,0,0,0,0,0,0,0,0,0,0,0,0,0,0,0])))∧True)∧True)∧True)∧True)∧True)∧True)∧True)∧True)∧((0:Int)≤5∧(5:Int)<((32:Nat):Int)))∧(5<(wA .u8 32 [0,1,2,3,4,0,0,0,0,0,0,0,0,0,0,0,0,0,0,0,0,0,0,0,0,0,0,0,0,0,0,0]).size∧(wA .u8 32 [0,1,2,3,4,0,0,0,0,0,0,0,0,0,0,0,0,0,0,0,0,0,0,0,0,0,0,0,0,0,0,0]).setIfInBounds (5) (.int .u8 5)=(wA .u8 32 [0,1,2,3,4,5,0,0,0,0,0,0,0,0,0,0,0,0,0,0,0,0,0,0,0,0,0,0,0,0,0,0])))∧True)∧True)∧True)∧True)∧True)∧True)∧True)∧True)∧((0:Int)≤6∧(6:Int)<((32:Nat):Int)))∧(6<(wA .u8 32 [0,1,2,3,4,5,0,0,0,0,0,0,0,0,0,0,0,0,0,0,0,0,0,0,0,0,0,0,0,0,0,0]).size∧(wA .u8 32 [0,1,2,3,4,5,0,0,0,0,0,0,0,0,0,0,0,0,0,0,0,0,0,0,0,0,0,0,0,0,0,0]).setIfInBounds (6) (.int .u8 6)=(wA .u8 32 [0,1,2,3,4,5,6,0,0,0,0,0,0,0,0,0,0,0,0,0,0,0,0,0,0,0,0,0,0,0,0,0])))∧True)∧True)∧True)∧True)∧True)∧True)∧True)∧True)∧((0:Int)≤7∧(7:Int)<((32:Nat):Int)))∧(7<(wA .u8 32 [0,1,2,3,4,5,6,0,0,0,0,0,0,0,0,0,0,0,0,0,0,0,0,0,0,0,0,0,0,0,0,0]).size∧(wA .u8 32 [0,1,2,3,4,5,6,0,0,0,0,0,0,0,0,0,0,0,0,0,0,0,0,0,0,0,0,0,0,0,0,0]).setIfInBounds (7) (.int .u8 7)=(wA .u8 32 [0,1,2,3,4,5,6,7,0,0,0,0,0,0,0,0,0,0,0,0,0,0,0,0,0,0,0,0,0,0,0,0])))∧True)∧True)∧True)∧True)∧True)∧True)∧True)∧True)∧((0:Int)≤8∧(8:Int)<((32:Nat):Int)))∧(8<(wA .u8 32 [0,1,2,3,4,5,6,7,0,0,0,0,0,0,0,0,0,0,0,0,0,0,0,0,0,0,0,0,0,0,0,0]).size∧(wA .u8 32 [0,1,2,3,4,5,6,7,0,0,0,0,0,0,0,0,0,0,0,0,0,0,0,0,0,0,0,0,0,0,0,0]).setIfInBounds (8) (.int .u8 8)=(wA .u8 32 [0,1,2,3,4,5,6,7,8,0,0,0,0,0,0,0,0,0,0,0,0,0,0,0,0,0,0,0,0,0,0,0])))∧True)∧True)∧True)∧True)∧True)∧True)∧True)∧True)∧((0:Int)≤9∧(9:Int)<((32:Nat):Int)))∧(9<(wA .u8 32 [0,1,2,3,4,5,6,7,8,0,0,0,0,0,0,0,0,0,0,0,0,0,0,0,0,0,0,0,0,0,0,0]).size∧(wA .u8 32 [0,1,2,3,4,5,6,7,8,0,0,0,0,0,0,0,0,0,0,0,0,0,0,0,0,0,0,0,0,0,0,0]).setIfInBounds (9) (.int .u8 9)=(wA .u8 32 [0,1,2,3,4,5,6,7,8,9,0,0,0,0,0,0,0,0,0,0,0,0,0,0,0,0,0,0,0,0,0,0])))∧True)∧True)∧True)∧True)∧True)∧True)∧True)∧True)∧((0:Int)≤10∧(10:Int)<((32:Nat):Int)))∧(10<(wA .u8 32 [0,1,2,3,4,5,6,7,8,9,0,0,0,0,0,0,0,0,0,0,0,0,0,0,0,0,0,0,0,0,0,0]).size∧(wA .u8 32 [0,1,2,3,4,5,6,7,8,9,0,0,0,0,0,0,0,0,0,0,0,0,0,0,0,0,0,0,0,0,0,0]).setIfInBounds (10) (.int .u8 10)=(wA .u8 32 [0,1,2,3,4,5,6,7,8,9,10,0,0,0,0,0,0,0,0,0,0,0,0,0,0,0,0,0,0,0,0,0])))∧True)∧True)∧True)∧True)∧True)∧True)∧True)∧True)∧((0:Int)≤11∧(11:Int)<((32:Nat):Int)))∧(11<(wA .u8 32 [0,1,2,3,4,5,6,7,8,9,10,0,0,0,0,0,0,0,0,0,0,0,0,0,0,0,0,0,0,0,0,0]).size∧(wA .u8 32 [0,1,2,3,4,5,6,7,8,9,10,0,0,0,0,0,0,0,0,0,0,0,0,0,0,0,0,0,0,0,0,0]).setIfInBounds (11) (.int .u8 11)=(wA .u8 32 [0,1,2,3,4,5,6,7,8,9,10,11,0,0,0,0,0,0,0,0,0,0,0,0,0,0,0,0,0,0,0,0])))∧True)∧True)∧True)∧True)∧True)∧True)∧True)∧True)∧((0:Int)≤12∧(12:Int)<((32:Nat):Int)))∧(12<(wA .u8 32 [0,1,2,3,4,5,6,7,8,9,10,11,0,0,0,0,0,0,0,0,0,0,0,0,0,0,0,0,0,0,0,0]).size∧(wA .u8 32 [0,1,2,3,4,5,6,7,8,9,10,11,0,0,0,0,0,0,0,0,0,0,0,0,0,0,0,0,0,0,0,0]).setIfInBounds (12) (.int .u8 12)=(wA .u8 32 [0,1,2,3,4,5,6,7,8,9,10,11,12,0,0,0,0,0,0,0,0,0,0,0,0,0,0,0,0,0,0,0])))∧True)∧True)∧True)∧True)∧True)∧True)∧True)∧True)∧((0:Int)≤13∧(13:Int)<((32:Nat):Int)))∧(13<(wA .u8 32 [0,1,2,3,4,5,6,7,8,9,10,11,12,0,0,0,0,0,0,0,0,0,0,0,0,0,0,0,0,0,0,0]).size∧(wA .u8 32 [0,1,2,3,4,5,6,7,8,9,10,11,12,0,0,0,0,0,0,0,0,0,0,0,0,0,0,0,0,0,0,0]).setIfInBounds (13) (.int .u8 13)=(wA .u8 32 [0,1,2,3,4,5,6,7,8,9,10,11,12,13,0,0,0,0,0,0,0,0,0,0,0,0,0,0,0,0,0,0])))∧True)∧True)∧True)∧True)∧True)∧True)∧True)∧True)∧((0:Int)≤14∧(14:Int)<((32:Nat):Int)))∧(14<(wA .u8 32 [0,1,2,3,4,5,6,7,8,9,10,11,12,13,0,0,0,0,0,0,0,0,0,0,0,0,0,0,0,0,0,0]).size∧(wA .u8 32 [0,1,2,3,4,5,6,7,8,9,10,11,12,13,0,0,0,0,0,0,0,0,0,0,0,0,0,0,0,0,0,0]).setIfInBounds (14) (.int .u8 14)=(wA .u8 32 [0,1,2,3,4,5,6,7,8,9,10,11,12,13,14,0,0,0,0,0,0,0,0,0,0,0,0,0,0,0,0,0])))∧True)∧True)∧True)∧True)∧True)∧True)∧True)∧True)∧((0:Int)≤15∧(15:Int)<((32:Nat):Int)))∧(15<(wA .u8 32 [0,1,2,3,4,5,6,7,8,9,10,11,12,13,14,0,0,0,0,0,0,0,0,0,0,0,0,0,0,0,0,0]).size∧(wA .u8 32 [0,1,2,3,4,5,6,7,8,9,10,11,12,13,14,0,0,0,0,0,0,0,0,0,0,0,0,0,0,0,0,0]).setIfInBounds (15) (.int .u8 15)=(wA .u8 32 [0,1,2,3,4,5,6,7,8,9,10,11,12,13,14,15,0,0,0,0,0,0,0,0,0,0,0,0,0,0,0,0])))∧True)∧True)∧True)∧True)∧True)∧True)∧True)∧True)∧((0:Int)≤16∧(16:Int)<((32:Nat):Int)))∧(16<(wA .u8 32 [0,1,2,3,4,5,6,7,8,9,10,11,12,13,14,15,0,0,0,0,0,0,0,0,0,0,0,0,0,0,0,0]).size∧(wA .u8 32 [0,1,2,3,4,5,6,7,8,9,10,11,12,13,14,15,0,0,0,0,0,0,0,0,0,0,0,0,0,0,0,0]).setIfInBounds (16) (.int .u8 16)=(wA .u8 32 [0,1,2,3,4,5,6,7,8,9,10,11,12,13,14,15,16,0,0,0,0,0,0,0,0,0,0,0,0,0,0,0])))∧True)∧True)∧True)∧True)∧True)∧True)∧True)∧True)∧((0:Int)≤17∧(17:Int)<((32:Nat):Int)))∧(17<(wA .u8 32 [0,1,2,3,4,5,6,7,8,9,10,11,12,13,14,15,16,0,0,0,0,0,0,0,0,0,0,0,0,0,0,0]).size∧(wA .u8 32 [0,1,2,3,4,5,6,7,8,9,10,11,12,13,14,15,16,0,0,0,0,0,0,0,0,0,0,0,0,0,0,0]).setIfInBounds (17) (.int .u8 17)=(wA .u8 32 [0,1,2,3,4,5,6,7,8,9,10,11,12,13,14,15,16,17,0,0,0,0,0,0,0,0,0,0,0,0,0,0])))∧True)∧True)∧True)∧True)∧True)∧True)∧True)∧True)∧((0:Int)≤18∧(18:Int)<((32:Nat):Int)))∧(18<(wA .u8 32 [0,1,2,3,4,5,6,7,8,9,10,11,12,13,14,15,16,17,0,0,0,0,0,0,0,0,0,0,0,0,0,0]).size∧(wA .u8 32 [0,1,2,3,4,5,6,7,8,9,10,11,12,13,14,15,16,17,0,0,0,0,0,0,0,0,0,0,0,0,0,0]).setIfInBounds (18) (.int .u8 18)=(wA .u8 32 [0,1,2,3,4,5,6,7,8,9,10,11,12,13,14,15,16,17,18,0,0,0,0,0,0,0,0,0,0,0,0,0])))∧True)∧True)∧True)∧True)∧True)∧True)∧True)∧True)∧((0:Int)≤19∧(19:Int)<((32:Nat):Int)))∧(19<(wA .u8 32 [0,1,2,3,4,5,6,7,8,9,10,11,12,13,14,15,16,17,18,0,0,0,0,0,0,0,0,0,0,0,0,0]).size∧(wA .u8 32 [0,1,2,3,4,5,6,7,8,9,10,11,12,13,14,15,16,17,18,0,0,0,0,0,0,0,0,0,0,0,0,0]).setIfInBounds (19) (.int .u8 19)=(wA .u8 32 [0,1,2,3,4,5,6,7,8,9,10,11,12,13,14,15,16,17,18,19,0,0,0,0,0,0,0,0,0,0,0,0])))∧True)∧True)∧True)∧True)∧True)∧True)∧True)∧True)∧((0:Int)≤20∧(20:Int)<((32:Nat):Int)))∧(20<(wA .u8 32 [0,1,2,3,4,5,6,7,8,9,10,11,12,13,14,15,16,17,18,19,0,0,0,0,0,0,0,0,0,0,0,0]).size∧(wA .u8 32 [0,1,2,3,4,5,6,7,8,9,10,11,12,13,14,15,16,17,18,19,0,0,0,0,0,0,0,0,0,0,0,0]).setIfInBounds (20) (.int .u8 20)=(wA .u8 32 [0,1,2,3,4,5,6,7,8,9,10,11,12,13,14,15,16,17,18,19,20,0,0,0,0,0,0,0,0,0,0,0])))∧True)∧True)∧True)∧True)∧True)∧True)∧True)∧True)∧((0:Int)≤21∧(21:Int)<((32:Nat):Int)))∧(21<(wA .u8 32 [0,1,2,3,4,5,6,7,8,9,10,11,12,13,14,15,16,17,18,19,20,0,0,0,0,0,0,0,0,0,0,0]).size∧(wA .u8 32 [0,1,2,3,4,5,6,7,8,9,10,11,12,13,14,15,16,17,18,19,20,0,0,0,0,0,0,0,0,0,0,0]).setIfInBounds (21) (.int .u8 21)=(wA .u8 32 [0,1,2,3,4,5,6,7,8,9,10,11,12,13,14,15,16,17,18,19,20,21,0,0,0,0,0,0,0,0,0,0])))∧True)∧True)∧True)∧True)∧True)∧True)∧True)∧True)∧((0:Int)≤22∧(22:Int)<((32:Nat):Int)))∧(22<(wA .u8 32 [0,1,2,3,4,5,6,7,8,9,10,11,12,13,14,15,16,17,18,19,20,21,0,0,0,0,0,0,0,0,0,0]).size∧(wA .u8 32 [0,1,2,3,4,5,6,7,8,9,10,11,12,13,14,15,16,17,18,19,20,21,0,0,0,0,0,0,0,0,0,0]).setIfInBounds (22) (.int .u8 22)=(wA .u8 32 [0,1,2,3,4,5,6,7,8,9,10,11,12,13,14,15,16,17,18,19,20,21,22,0,0,0,0,0,0,0,0,0])))∧True)∧True)∧True)∧True)∧True)∧True)∧True)∧True)∧((0:Int)≤23∧(23:Int)<((32:Nat):Int)))∧(23<(wA .u8 32 [0,1,2,3,4,5,6,7,8,9,10,11,12,13,14,15,16,17,18,19,20,21,22,0,0,0,0,0,0,0,0,0]).size∧(wA .u8 32 [0,1,2,3,4,5,6,7,8,9,10,11,12,13,14,15,16,17,18,19,20,21,22,0,0,0,0,0,0,0,0,0]).setIfInBounds (23) (.int .u8 23)=(wA .u8 32 [0,1,2,3,4,5,6,7,8,9,10,11,12,13,14,15,16,17,18,19,20,21,22,23,0,0,0,0,0,0,0,0])))∧True)∧True)∧True)∧True)∧True)∧True)∧True)∧True)∧((0:Int)≤24∧(24:Int)<((32:Nat):Int)))∧(24<(wA .u8 32 [0,1,2,3,4,5,6,7,8,9,10,11,12,13,14,15,16,17,18,19,20,21,22,23,0,0,0,0,0,0,0,0]).size∧(wA .u8 32 [0,1,2,3,4,5,6,7,8,9,10,11,12,13,14,15,16,17,18,19,20,21,22,23,0,0,0,0,0,0,0,0]).setIfInBounds (24) (.int .u8 24)=(wA .u8 32 [0,1,2,3,4,5,6,7,8,9,10,11,12,13,14,15,16,17,18,19,20,21,22,23,24,0,0,0,0,0,0,0])))∧True)∧True)∧True)∧True)∧True)∧True)∧True)∧True)∧((0:Int)≤25∧(25:Int)<((32:Nat):Int)))∧(25<(wA .u8 32 [0,1,2,3,4,5,6,7,8,9,10,11,12,13,14,15,16,17,18,19,20,21,22,23,24,0,0,0,0,0,0,0]).size∧(wA .u8 32 [0,1,2,3,4,5,6,7,8,9,10,11,12,13,14,15,16,17,18,19,20,21,22,23,24,0,0,0,0,0,0,0]).setIfInBounds (25) (.int .u8 25)=(wA .u8 32 [0,1,2,3,4,5,6,7,8,9,10,11,12,13,14,15,16,17,18,19,20,21,22,23,24,25,0,0,0,0,0,0])))∧True)∧True)∧True)∧True)∧True)∧True)∧True)∧True)∧((0:Int)≤26∧(26:Int)<((32:Nat):Int)))∧(26<(wA .u8 32 [0,1,2,3,4,5,6,7,8,9,10,11,12,13,14,15,16,17,18,19,20,21,22,23,24,25,0,0,0,0,0,0]).size∧(wA .u8 32 [0,1,2,3,4,5,6,7,8,9,10,11,12,13,14,15,16,17,18,19,20,21,22,23,24,25,0,0,0,0,0,0]).setIfInBounds (26) (.int .u8 26)=(wA .u8 32 [0,1,2,3,4,5,6,7,8,9,10,11,12,13,14,15,16,17,18,19,20,21,22,23,24,25,26,0,0,0,0,0])))∧True)∧True)∧True)∧True)∧True)∧True)∧True)∧True)∧((0:Int)≤27∧(27:Int)<((32:Nat):Int)))∧(27<(wA .u8 32 [0,1,2,3,4,5,6,7,8,9,10,11,12,13,14,15,16,17,18,19,20,21,22,23,24,25,26,0,0,0,0,0]).size∧(wA .u8 32 [0,1,2,3,4,5,6,7,8,9,10,11,12,13,14,15,16,17,18,19,20,21,22,23,24,25,26,0,0,0,0,0]).setIfInBounds (27) (.int .u8 27)=(wA .u8 32 [0,1,2,3,4,5,6,7,8,9,10,11,12,13,14,15,16,17,18,19,20,21,22,23,24,25,26,27,0,0,0,0])))∧True)∧True)∧True)∧True)∧True)∧True)∧True)∧True)∧((0:Int)≤28∧(28:Int)<((32:Nat):Int)))∧(28<(wA .u8 32 [0,1,2,3,4,5,6,7,8,9,10,11,12,13,14,15,16,17,18,19,20,21,22,23,24,25,26,27,0,0,0,0]).size∧(wA .u8 32 [0,1,2,3,4,5,6,7,8,9,10,11,12,13,14,15,16,17,18,19,20,21,22,23,24,25,26,27,0,0,0,0]).setIfInBounds (28) (.int .u8 28)=(wA .u8 32 [0,1,2,3,4,5,6,7,8,9,10,11,12,13,14,15,16,17,18,19,20,21,22,23,24,25,26,27,28,0,0,0])))∧True)∧True)∧True)∧True)∧True)∧True)∧True)∧True)∧((0:Int)≤29∧(29:Int)<((32:Nat):Int)))∧(29<(wA .u8 32 [0,1,2,3,4,5,6,7,8,9,10,11,12,13,14,15,16,17,18,19,20,21,22,23,24,25,26,27,28,0,0,0]).size∧(wA .u8 32 [0,1,2,3,4,5,6,7,8,9,10,11,12,13,14,15,16,17,18,19,20,21,22,23,24,25,26,27,28,0,0,0]).setIfInBounds (29) (.int .u8 29)=(wA .u8 32 [0,1,2,3,4,5,6,7,8,9,10,11,12,13,14,15,16,17,18,19,20,21,22,23,24,25,26,27,28,29,0,0])))∧True)∧True)∧True)∧True)∧True)∧True)∧True)∧True)∧((0:Int)≤30∧(30:Int)<((32:Nat):Int)))∧(30<(wA .u8 32 [0,1,2,3,4,5,6,7,8,9,10,11,12,13,14,15,16,17,18,19,20,21,22,23,24,25,26,27,28,29,0,0]).size∧(wA .u8 32 [0,1,2,3,4,5,6,7,8,9,10,11,12,13,14,15,16,17,18,19,20,21,22,23,24,25,26,27,28,29,0,0]).setIfInBounds (30) (.int .u8 30)=(wA .u8 32 [0,1,2,3,4,5,6,7,8,9,10,11,12,13,14,15,16,17,18,19,20,21,22,23,24,25,26,27,28,29,30,0])))∧True)∧True)∧True)∧True)∧True)∧True)∧True)∧True)∧((0:Int)≤31∧(31:Int)<((32:Nat):Int)))∧(31<(wA .u8 32 [0,1,2,3,4,5,6,7,8,9,10,11,12,13,14,15,16,17,18,19,20,21,22,23,24,25,26,27,28,29,30,0]).size∧(wA .u8 32 [0,1,2,3,4,5,6,7,8,9,10,11,12,13,14,15,16,17,18,19,20,21,22,23,24,25,26,27,28,29,30,0]).setIfInBounds (31) (.int .u8 31)=(wA .u8 32 kL)))∧True)∧True)∧True)∧True)∧True)∧True)∧True)∧True)∧True)∧True)∧True)∧((0:Int)≤0∧(0:Int)<((16:Nat):Int)))∧(0<(wA .u8 16 []).size∧(wA .u8 16 []).setIfInBounds (0) (.int .u8 0)=(wA .u8 16 [0,0,0,0,0,0,0,0,0,0,0,0,0,0,0,0])))∧True)∧True)∧True)∧True)∧True)∧True)∧True)∧True)∧True)∧((0:Int)≤1∧(1:Int)<((16:Nat):Int)))∧(1<(wA .u8 16 [0,0,0,0,0,0,0,0,0,0,0,0,0,0,0,0]).size∧(wA .u8 16 [0,0,0,0,0,0,0,0,0,0,0,0,0,0,0,0]).setIfInBounds (1) (.int .u8 17)=(wA .u8 16 [0,17,0,0,0,0,0,0,0,0,0,0,0,0,0,0])))∧True)∧True)∧True)∧True)∧True)∧True)∧True)∧True)∧True)∧((0:Int)≤2∧(2:Int)<((16:Nat):Int)))∧(2<(wA .u8 16 [0,17,0,0,0,0,0,0,0,0,0,0,0,0,0,0]).size∧(wA .u8 16 [0,17,0,0,0,0,0,0,0,0,0,0,0,0,0,0]).setIfInBounds (2) (.int .u8 34)=(wA .u8 16 [0,17,34,0,0,0,0,0,0,0,0,0,0,0,0,0])))∧True)∧True)∧True)∧True)∧True)∧True)∧True)∧True)∧True)∧((0:Int)≤3∧(3:Int)<((16:Nat):Int)))∧(3<(wA .u8 16 [0,17,34,0,0,0,0,0,0,0,0,0,0,0,0,0]).size∧(wA .u8 16 [0,17,34,0,0,0,0,0,0,0,0,0,0,0,0,0]).setIfInBounds (3) (.int .u8 51)=(wA .u8 16 [0,17,34,51,0,0,0,0,0,0,0,0,0,0,0,0])))∧True)∧True)∧True)∧True)∧True)∧True)∧True)∧True)∧True)∧((0:Int)≤4∧(4:Int)<((16:Nat):Int)))∧(4<(wA .u8 16 [0,17,34,51,0,0,0,0,0,0,0,0,0,0,0,0]).size∧(wA .u8 16 [0,17,34,51,0,0,0,0,0,0,0,0,0,0,0,0]).setIfInBounds (4) (.int .u8 68)=(wA .u8 16 [0,17,34,51,68,0,0,0,0,0,0,0,0,0,0,0])))∧True)∧True)∧True)∧True)∧True)∧True)∧True)∧True)∧True)∧((0:Int)≤5∧(5:Int)<((16:Nat):Int)))∧(5<(wA .u8 16 [0,17,34,51,68,0,0,0,0,0,0,0,0,0,0,0]).size∧(wA .u8 16 [0,17,34,51,68,0,0,0,0,0,0,0,0,0,0,0]).setIfInBounds (5) (.int .u8 85)=(wA .u8 16 [0,17,34,51,68,85,0,0,0,0,0,0,0,0,0,0])))∧True)∧True)∧True)∧True)∧True)∧True)∧True)∧True)∧True)∧((0:Int)≤6∧(6:Int)<((16:Nat):Int)))∧(6<(wA .u8 16 [0,17,34,51,68,85,0,0,0,0,0,0,0,0,0,0]).size∧(wA .u8 16 [0,17,34,51,68,85,0,0,0,0,0,0,0,0,0,0]).setIfInBounds (6) (.int .u8 102)=(wA .u8 16 [0,17,34,51,68,85,102,0,0,0,0,0,0,0,0,0])))∧True)∧True)∧True)∧True)∧True)∧True)∧True)∧True)∧True)∧((0:Int)≤7∧(7:Int)<((16:Nat):Int)))∧(7<(wA .u8 16 [0,17,34,51,68,85,102,0,0,0,0,0,0,0,0,0]).size∧(wA .u8 16 [0,17,34,51,68,85,102,0,0,0,0,0,0,0,0,0]).setIfInBounds (7) (.int .u8 119)=(wA .u8 16 [0,17,34,51,68,85,102,119,0,0,0,0,0,0,0,0])))∧True)∧True)∧True)∧True)∧True)∧True)∧True)∧True)∧True)∧((0:Int)≤8∧(8:Int)<((16:Nat):Int)))∧(8<(wA .u8 16 [0,17,34,51,68,85,102,119,0,0,0,0,0,0,0,0]).size∧(wA .u8 16 [0,17,34,51,68,85,102,119,0,0,0,0,0,0,0,0]).setIfInBounds (8) (.int .u8 136)=(wA .u8 16 [0,17,34,51,68,85,102,119,136,0,0,0,0,0,0,0])))∧True)∧True)∧True)∧True)∧True)∧True)∧True)∧True)∧True)∧((0:Int)≤9∧(9:Int)<((16:Nat):Int)))∧(9<(wA .u8 16 [0,17,34,51,68,85,102,119,136,0,0,0,0,0,0,0]).size∧(wA .u8 16 [0,17,34,51,68,85,102,119,136,0,0,0,0,0,0,0]).setIfInBounds (9) (.int .u8 153)=(wA .u8 16 [0,17,34,51,68,85,102,119,136,153,0,0,0,0,0,0])))∧True)∧True)∧True)∧True)∧True)∧True)∧True)∧True)∧True)∧((0:Int)≤10∧(10:Int)<((16:Nat):Int)))∧(10<(wA .u8 16 [0,17,34,51,68,85,102,119,136,153,0,0,0,0,0,0]).size∧(wA .u8 16 [0,17,34,51,68,85,102,119,136,153,0,0,0,0,0,0]).setIfInBounds (10) (.int .u8 170)=(wA .u8 16 [0,17,34,51,68,85,102,119,136,153,170,0,0,0,0,0])))∧True)∧True)∧True)∧True)∧True)∧True)∧True)∧True)∧True)∧((0:Int)≤11∧(11:Int)<((16:Nat):Int)))∧(11<(wA .u8 16 [0,17,34,51,68,85,102,119,136,153,170,0,0,0,0,0]).size∧(wA .u8 16 [0,17,34,51,68,85,102,119,136,153,170,0,0,0,0,0]).setIfInBounds (11) (.int .u8 187)=(wA .u8 16 [0,17,34,51,68,85,102,119,136,153,170,187,0,0,0,0])))∧True)∧True)∧True)∧True)∧True)∧True)∧True)∧True)∧True)∧((0:Int)≤12∧(12:Int)<((16:Nat):Int)))∧(12<(wA .u8 16 [0,17,34,51,68,85,102,119,136,153,170,187,0,0,0,0]).size∧(wA .u8 16 [0,17,34,51,68,85,102,119,136,153,170,187,0,0,0,0]).setIfInBounds (12) (.int .u8 204)=(wA .u8 16 [0,17,34,51,68,85,102,119,136,153,170,187,204,0,0,0])))∧True)∧True)∧True)∧True)∧True)∧True)∧True)∧True)∧True)∧((0:Int)≤13∧(13:Int)<((16:Nat):Int)))∧(13<(wA .u8 16 [0,17,34,51,68,85,102,119,136,153,170,187,204,0,0,0]).size∧(wA .u8 16 [0,17,34,51,68,85,102,119,136,153,170,187,204,0,0,0]).setIfInBounds (13) (.int .u8 221)=(wA .u8 16 [0,17,34,51,68,85,102,119,136,153,170,187,204,221,0,0])))∧True)∧True)∧True)∧True)∧True)∧True)∧True)∧True)∧True)∧((0:Int)≤14∧(14:Int)<((16:Nat):Int)))∧(14<(wA .u8 16 [0,17,34,51,68,85,102,119,136,153,170,187,204,221,0,0]).size∧(wA .u8 16 [0,17,34,51,68,85,102,119,136,153,170,187,204,221,0,0]).setIfInBounds (14) (.int .u8 238)=(wA .u8 16 [0,17,34,51,68,85,102,119,136,153,170,187,204,221,238,0])))∧True)∧True)∧True)∧True)∧True)∧True)∧True)∧True)∧True)∧((0:Int)≤15∧(15:Int)<((16:Nat):Int)))∧(15<(wA .u8 16 [0,17,34,51,68,85,102,119,136,153,170,187,204,221,238,0]).size∧(wA .u8 16 [0,17,34,51,68,85,102,119,136,153,170,187,204,221,238,0]).setIfInBounds (15) (.int .u8 255)=(wA .u8 16 kB)))∧True)∧True)∧True)∧True)∧True)∧(((wA .u8 32 kL)=wA .u8 32 (dL8 (wA .u8 32 kL))∧By (dL8 (wA .u8 32 kL)))∧((wA .u8 16 kB)=wA .u8 16 (dL8 (wA .u8 16 kB))∧By (dL8 (wA .u8 16 kB)))))∧True)∧((isBL 16 (wA .u8 16 (encL (dL8 (wA .u8 32 kL)) (dL8 (wA .u8 16 kB))))∧isBL 16 (wA .u8 16 kC))∧(intsOf (wA .u8 16 (encL (dL8 (wA .u8 32 kL)) (dL8 (wA .u8 16 kB)))) == intsOf (wA .u8 16 kC))=true))∧True),[]⟩):=by kernel_rfl
set_option maxRecDepth 100000 in
set_option maxHeartbeats 4000000 in
theorem aKn_c (z:Unit):Pure Try.prog 12 #[] (.bool true):=by
  have h50:(intsOf (wA .u8 16 (encL (dL8 (wA .u8 32 kL)) (dL8 (wA .u8 16 kB)))) == intsOf (wA .u8 16 kC))=true:=kn_eq
  refine pure_runs (E:=(yty.en tabK1)) Try.func12 (c:=bdy Try.f12) (by kernel_rfl) (args:= []) (by kernel_rfl) (K:=fun e s=>e= .ret∧resS (yty.en tabK1) s Try.f12.results.toList=some [.bool true]) ?_ (fun e s h=>⟨h.1,_,h.2,rfl⟩)
  refine(runs_ev mixed _ (aKn_0 z) ⟨⟨⟨⟨⟨⟨⟨⟨⟨⟨⟨⟨⟨⟨⟨⟨⟨⟨⟨⟨⟨⟨⟨⟨⟨⟨⟨⟨⟨⟨⟨⟨⟨⟨⟨⟨⟨⟨⟨⟨⟨⟨⟨⟨⟨⟨⟨⟨⟨⟨⟨⟨⟨⟨⟨⟨⟨⟨⟨⟨⟨⟨⟨⟨⟨⟨⟨⟨⟨⟨⟨⟨⟨⟨⟨⟨⟨⟨⟨⟨⟨⟨⟨⟨⟨⟨⟨⟨⟨⟨⟨⟨⟨⟨⟨⟨⟨⟨⟨⟨⟨⟨⟨⟨⟨⟨⟨⟨⟨⟨⟨⟨⟨⟨⟨⟨⟨⟨⟨⟨⟨⟨⟨⟨⟨⟨⟨⟨⟨⟨⟨⟨⟨⟨⟨⟨⟨⟨⟨⟨⟨⟨⟨⟨⟨⟨⟨⟨⟨⟨⟨⟨⟨⟨⟨⟨⟨⟨⟨⟨⟨⟨⟨⟨⟨⟨⟨⟨⟨⟨⟨⟨⟨⟨⟨⟨⟨⟨⟨⟨⟨⟨⟨⟨⟨⟨⟨⟨⟨⟨⟨⟨⟨⟨⟨⟨⟨⟨⟨⟨⟨⟨⟨⟨⟨⟨⟨⟨⟨⟨⟨⟨⟨⟨⟨⟨⟨⟨⟨⟨⟨⟨⟨⟨⟨⟨⟨⟨⟨⟨⟨⟨⟨⟨⟨⟨⟨⟨⟨⟨⟨⟨⟨⟨⟨⟨⟨⟨⟨⟨⟨⟨⟨⟨⟨⟨⟨⟨⟨⟨⟨⟨⟨⟨⟨⟨⟨⟨⟨⟨⟨⟨⟨⟨⟨⟨⟨⟨⟨⟨⟨⟨⟨⟨⟨⟨⟨⟨⟨⟨⟨⟨⟨⟨⟨⟨⟨⟨⟨⟨⟨⟨⟨⟨⟨⟨⟨⟨⟨⟨⟨⟨⟨⟨⟨⟨⟨⟨⟨⟨⟨⟨⟨⟨⟨⟨⟨⟨⟨⟨⟨⟨⟨⟨⟨⟨⟨⟨⟨⟨⟨⟨⟨⟨⟨⟨⟨⟨⟨⟨⟨⟨⟨⟨⟨⟨⟨⟨⟨⟨⟨⟨⟨⟨⟨⟨⟨⟨⟨⟨⟨⟨⟨⟨⟨⟨⟨⟨⟨⟨⟨⟨⟨⟨⟨⟨⟨⟨⟨⟨⟨⟨⟨⟨⟨⟨⟨⟨⟨⟨⟨⟨⟨⟨⟨⟨⟨⟨⟨⟨⟨⟨⟨⟨⟨⟨⟨⟨⟨⟨⟨⟨⟨⟨⟨⟨⟨⟨⟨⟨⟨⟨⟨⟨⟨⟨⟨⟨⟨⟨⟨⟨⟨⟨⟨⟨⟨⟨⟨⟨⟨⟨⟨⟨⟨⟨⟨⟨⟨⟨⟨⟨⟨⟨⟨⟨⟨⟨⟨⟨⟨⟨⟨⟨⟨⟨⟨⟨⟨⟨⟨⟨⟨⟨⟨⟨⟨⟨⟨⟨⟨⟨⟨⟨⟨⟨⟨⟨⟨⟨⟨⟨⟨⟨⟨⟨⟨trivial,trivial⟩,trivial⟩,trivial⟩,trivial⟩,trivial⟩,trivial⟩,trivial⟩,trivial⟩,⟨by decide,by decide⟩⟩,⟨by rw[wA_size];omega,rfl⟩⟩,trivial⟩,trivial⟩,trivial⟩,trivial⟩,trivial⟩,trivial⟩,trivial⟩,trivial⟩,⟨by decide,by decide⟩⟩,⟨by rw[wA_size];omega,rfl⟩⟩,trivial⟩,trivial⟩,trivial⟩,trivial⟩,trivial⟩,trivial⟩,trivial⟩,trivial⟩,⟨by decide,by decide⟩⟩,⟨by rw[wA_size];omega,rfl⟩⟩,trivial⟩,trivial⟩,trivial⟩,trivial⟩,trivial⟩,trivial⟩,trivial⟩,trivial⟩,⟨by decide,by decide⟩⟩,⟨by rw[wA_size];omega,rfl⟩⟩,trivial⟩,trivial⟩,trivial⟩,trivial⟩,trivial⟩,trivial⟩,trivial⟩,trivial⟩,⟨by decide,by decide⟩⟩,⟨by rw[wA_size];omega,rfl⟩⟩,trivial⟩,trivial⟩,trivial⟩,trivial⟩,trivial⟩,trivial⟩,trivial⟩,trivial⟩,⟨by decide,by decide⟩⟩,⟨by rw[wA_size];omega,rfl⟩⟩,trivial⟩,trivial⟩,trivial⟩,trivial⟩,trivial⟩,trivial⟩,trivial⟩,trivial⟩,⟨by decide,by decide⟩⟩,⟨by rw[wA_size];omega,rfl⟩⟩,trivial⟩,trivial⟩,trivial⟩,trivial⟩,trivial⟩,trivial⟩,trivial⟩,trivial⟩,⟨by decide,by decide⟩⟩,⟨by rw[wA_size];omega,rfl⟩⟩,trivial⟩,trivial⟩,trivial⟩,trivial⟩,trivial⟩,trivial⟩,trivial⟩,trivial⟩,⟨by decide,by decide⟩⟩,⟨by rw[wA_size];omega,rfl⟩⟩,trivial⟩,trivial⟩,trivial⟩,trivial⟩,trivial⟩,trivial⟩,trivial⟩,trivial⟩,⟨by decide,by decide⟩⟩,⟨by rw[wA_size];omega,rfl⟩⟩,trivial⟩,trivial⟩,trivial⟩,trivial⟩,trivial⟩,trivial⟩,trivial⟩,trivial⟩,⟨by decide,by decide⟩⟩,⟨by rw[wA_size];omega,rfl⟩⟩,trivial⟩,trivial⟩,trivial⟩,trivial⟩,trivial⟩,trivial⟩,trivial⟩,trivial⟩,⟨by decide,by decide⟩⟩,⟨by rw[wA_size];omega,rfl⟩⟩,trivial⟩,trivial⟩,trivial⟩,trivial⟩,trivial⟩,trivial⟩,trivial⟩,trivial⟩,⟨by decide,by decide⟩⟩,⟨by rw[wA_size];omega,rfl⟩⟩,trivial⟩,trivial⟩,trivial⟩,trivial⟩,trivial⟩,trivial⟩,trivial⟩,trivial⟩,⟨by decide,by decide⟩⟩,⟨by rw[wA_size];omega,rfl⟩⟩,trivial⟩,trivial⟩,trivial⟩,trivial⟩,trivial⟩,trivial⟩,trivial⟩,trivial⟩,⟨by decide,by decide⟩⟩,⟨by rw[wA_size];omega,rfl⟩⟩,trivial⟩,trivial⟩,trivial⟩,trivial⟩,trivial⟩,trivial⟩,trivial⟩,trivial⟩,⟨by decide,by decide⟩⟩,⟨by rw[wA_size];omega,rfl⟩⟩,trivial⟩,trivial⟩,trivial⟩,trivial⟩,trivial⟩,trivial⟩,trivial⟩,trivial⟩,⟨by decide,by decide⟩⟩,⟨by rw[wA_size];omega,rfl⟩⟩,trivial⟩,trivial⟩,trivial⟩,trivial⟩,trivial⟩,trivial⟩,trivial⟩,trivial⟩,⟨by decide,by decide⟩⟩,⟨by rw[wA_size];omega,rfl⟩⟩,trivial⟩,trivial⟩,trivial⟩,trivial⟩,trivial⟩,trivial⟩,trivial⟩,trivial⟩,⟨by decide,by decide⟩⟩,⟨by rw[wA_size];omega,rfl⟩⟩,trivial⟩,trivial⟩,trivial⟩,trivial⟩,trivial⟩,trivial⟩,trivial⟩,trivial⟩,⟨by decide,by decide⟩⟩,⟨by rw[wA_size];omega,rfl⟩⟩,trivial⟩,trivial⟩,trivial⟩,trivial⟩,trivial⟩,trivial⟩,trivial⟩,trivial⟩,⟨by decide,by decide⟩⟩,⟨by rw[wA_size];omega,rfl⟩⟩,trivial⟩,trivial⟩,trivial⟩,trivial⟩,trivial⟩,trivial⟩,trivial⟩,trivial⟩,⟨by decide,by decide⟩⟩,⟨by rw[wA_size];omega,rfl⟩⟩,trivial⟩,trivial⟩,trivial⟩,trivial⟩,trivial⟩,trivial⟩,trivial⟩,trivial⟩,⟨by decide,by decide⟩⟩,⟨by rw[wA_size];omega,rfl⟩⟩,trivial⟩,trivial⟩,trivial⟩,trivial⟩,trivial⟩,trivial⟩,trivial⟩,trivial⟩,⟨by decide,by decide⟩⟩,⟨by rw[wA_size];omega,rfl⟩⟩,trivial⟩,trivial⟩,trivial⟩,trivial⟩,trivial⟩,trivial⟩,trivial⟩,trivial⟩,⟨by decide,by decide⟩⟩,⟨by rw[wA_size];omega,rfl⟩⟩,trivial⟩,trivial⟩,trivial⟩,trivial⟩,trivial⟩,trivial⟩,trivial⟩,trivial⟩,⟨by decide,by decide⟩⟩,⟨by rw[wA_size];omega,rfl⟩⟩,trivial⟩,trivial⟩,trivial⟩,trivial⟩,trivial⟩,trivial⟩,trivial⟩,trivial⟩,⟨by decide,by decide⟩⟩,⟨by rw[wA_size];omega,rfl⟩⟩,trivial⟩,trivial⟩,trivial⟩,trivial⟩,trivial⟩,trivial⟩,trivial⟩,trivial⟩,⟨by decide,by decide⟩⟩,⟨by rw[wA_size];omega,rfl⟩⟩,trivial⟩,trivial⟩,trivial⟩,trivial⟩,trivial⟩,trivial⟩,trivial⟩,trivial⟩,⟨by decide,by decide⟩⟩,⟨by rw[wA_size];omega,rfl⟩⟩,trivial⟩,trivial⟩,trivial⟩,trivial⟩,trivial⟩,trivial⟩,trivial⟩,trivial⟩,⟨by decide,by decide⟩⟩,⟨by rw[wA_size];omega,rfl⟩⟩,trivial⟩,trivial⟩,trivial⟩,trivial⟩,trivial⟩,trivial⟩,trivial⟩,trivial⟩,⟨by decide,by decide⟩⟩,⟨by rw[wA_size];omega,rfl⟩⟩,trivial⟩,trivial⟩,trivial⟩,trivial⟩,trivial⟩,trivial⟩,trivial⟩,trivial⟩,⟨by decide,by decide⟩⟩,⟨by rw[wA_size];omega,rfl⟩⟩,trivial⟩,trivial⟩,trivial⟩,trivial⟩,trivial⟩,trivial⟩,trivial⟩,trivial⟩,trivial⟩,trivial⟩,trivial⟩,⟨by decide,by decide⟩⟩,⟨by rw[wA_size];omega,rfl⟩⟩,trivial⟩,trivial⟩,trivial⟩,trivial⟩,trivial⟩,trivial⟩,trivial⟩,trivial⟩,trivial⟩,⟨by decide,by decide⟩⟩,⟨by rw[wA_size];omega,rfl⟩⟩,trivial⟩,trivial⟩,trivial⟩,trivial⟩,trivial⟩,trivial⟩,trivial⟩,trivial⟩,trivial⟩,⟨by decide,by decide⟩⟩,⟨by rw[wA_size];omega,rfl⟩⟩,trivial⟩,trivial⟩,trivial⟩,trivial⟩,trivial⟩,trivial⟩,trivial⟩,trivial⟩,trivial⟩,⟨by decide,by decide⟩⟩,⟨by rw[wA_size];omega,rfl⟩⟩,trivial⟩,trivial⟩,trivial⟩,trivial⟩,trivial⟩,trivial⟩,trivial⟩,trivial⟩,trivial⟩,⟨by decide,by decide⟩⟩,⟨by rw[wA_size];omega,rfl⟩⟩,trivial⟩,trivial⟩,trivial⟩,trivial⟩,trivial⟩,trivial⟩,trivial⟩,trivial⟩,trivial⟩,⟨by decide,by decide⟩⟩,⟨by rw[wA_size];omega,rfl⟩⟩,trivial⟩,trivial⟩,trivial⟩,trivial⟩,trivial⟩,trivial⟩,trivial⟩,trivial⟩,trivial⟩,⟨by decide,by decide⟩⟩,⟨by rw[wA_size];omega,rfl⟩⟩,trivial⟩,trivial⟩,trivial⟩,trivial⟩,trivial⟩,trivial⟩,trivial⟩,trivial⟩,trivial⟩,⟨by decide,by decide⟩⟩,⟨by rw[wA_size];omega,rfl⟩⟩,trivial⟩,trivial⟩,trivial⟩,trivial⟩,trivial⟩,trivial⟩,trivial⟩,trivial⟩,trivial⟩,⟨by decide,by decide⟩⟩,⟨by rw[wA_size];omega,rfl⟩⟩,trivial⟩,trivial⟩,trivial⟩,trivial⟩,trivial⟩,trivial⟩,trivial⟩,trivial⟩,trivial⟩,⟨by decide,by decide⟩⟩,⟨by rw[wA_size];omega,rfl⟩⟩,trivial⟩,trivial⟩,trivial⟩,trivial⟩,trivial⟩,trivial⟩,trivial⟩,trivial⟩,trivial⟩,⟨by decide,by decide⟩⟩,⟨by rw[wA_size];omega,rfl⟩⟩,trivial⟩,trivial⟩,trivial⟩,trivial⟩,trivial⟩,trivial⟩,trivial⟩,trivial⟩,trivial⟩,⟨by decide,by decide⟩⟩,⟨by rw[wA_size];omega,rfl⟩⟩,trivial⟩,trivial⟩,trivial⟩,trivial⟩,trivial⟩,trivial⟩,trivial⟩,trivial⟩,trivial⟩,⟨by decide,by decide⟩⟩,⟨by rw[wA_size];omega,rfl⟩⟩,trivial⟩,trivial⟩,trivial⟩,trivial⟩,trivial⟩,trivial⟩,trivial⟩,trivial⟩,trivial⟩,⟨by decide,by decide⟩⟩,⟨by rw[wA_size];omega,rfl⟩⟩,trivial⟩,trivial⟩,trivial⟩,trivial⟩,trivial⟩,trivial⟩,trivial⟩,trivial⟩,trivial⟩,⟨by decide,by decide⟩⟩,⟨by rw[wA_size];omega,rfl⟩⟩,trivial⟩,trivial⟩,trivial⟩,trivial⟩,trivial⟩,trivial⟩,trivial⟩,trivial⟩,trivial⟩,⟨by decide,by decide⟩⟩,⟨by rw[wA_size];omega,rfl⟩⟩,trivial⟩,trivial⟩,trivial⟩,trivial⟩,trivial⟩,⟨dq kL_by,dq kB_by⟩⟩,trivial⟩,⟨⟨isBL_wA _ _,isBL_wA _ _⟩,h50⟩⟩,trivial⟩).mono ?_
  rintro e s ⟨rfl,rfl⟩
  exact⟨rfl,by kernel_rfl⟩
def pkn:Entry Try.prog:=ent0 Try.func12 (by kernel_rfl) (by kernel_rfl) (.bool true) (aKn_c ())
def tabK2:List (Entry Try.prog):=pkn :: tabK1
def aLc_h (i:Nat):Hn:=if i=1 then⟨11,[],[],[],[]⟩ else⟨0,[],[],[],[]⟩
def aLc_a (K B:List Int):List Value:=([.agg (wA .u8 32 K),.agg (wA .u8 16 B)] ++ (JU 13))
def aLc_b (K B:List Int):List Value:=([.agg (wA .u8 32 K),.agg (wA .u8 16 B),.pointer (some ⟨0,0,none⟩),.pointer (some ⟨1,0,none⟩),.bool true,.agg (wA .u8 32 K),.agg (wA .u8 16 B),.agg (wA .u8 16 (encL (dL8 (wA .u8 32 K)) (dL8 (wA .u8 16 B)))),.agg (wA .u8 32 K),.agg (wA .u8 16 B),.agg (wA .u8 16 (encL (dL8 (wA .u8 32 K)) (dL8 (wA .u8 16 B)))),.bool true,.bool true,.bool true,.bool true])
theorem aLc_0 (K B:List Int):evC (yty.en tabK2) aLc_h (cAt [] (bdy Try.f5)) ⟨aLc_a K B,[],True,[some (.bool true)]⟩=some (.ret,⟨aLc_b K B,[((wA .u8 32 K),(26,(0,0))),((wA .u8 16 B),(31,(0,0)))],((((((((((((True∧True)∧True)∧True)∧(((wA .u8 32 K)=wA .u8 32 (dL8 (wA .u8 32 K))∧By (dL8 (wA .u8 32 K)))∧((wA .u8 16 B)=wA .u8 16 (dL8 (wA .u8 16 B))∧By (dL8 (wA .u8 16 B)))))∧True)∧True)∧(((wA .u8 32 K)=wA .u8 32 (dL8 (wA .u8 32 K))∧By (dL8 (wA .u8 32 K)))∧((wA .u8 16 B)=wA .u8 16 (dL8 (wA .u8 16 B))∧By (dL8 (wA .u8 16 B)))))∧((isBL 16 (wA .u8 16 (encL (dL8 (wA .u8 32 K)) (dL8 (wA .u8 16 B))))∧isBL 16 (wA .u8 16 (encL (dL8 (wA .u8 32 K)) (dL8 (wA .u8 16 B)))))∧(intsOf (wA .u8 16 (encL (dL8 (wA .u8 32 K)) (dL8 (wA .u8 16 B)))) == intsOf (wA .u8 16 (encL (dL8 (wA .u8 32 K)) (dL8 (wA .u8 16 B)))))=true))∧True)∧True)∧True)∧True),[]⟩):=by kernel_rfl
theorem aLc_c (K B:List Int) (hK:By K) (hB:By B):Pure Try.prog 5 #[.agg (wA .u8 32 K),.agg (wA .u8 16 B)] (.bool true):=by
  have h0:(intsOf (wA .u8 16 (encL (dL8 (wA .u8 32 K)) (dL8 (wA .u8 16 B)))) == intsOf (wA .u8 16 (encL (dL8 (wA .u8 32 K)) (dL8 (wA .u8 16 B)))))=true:=(beq_self_eq_true _)
  refine pure_runs (E:=(yty.en tabK2)) Try.func5 (c:=bdy Try.f5) (by kernel_rfl) (args:= [.agg (wA .u8 32 K),.agg (wA .u8 16 B)]) (by kernel_rfl) (K:=fun e s=>e= .ret∧resS (yty.en tabK2) s Try.f5.results.toList=some [.bool true]) ?_ (fun e s h=>⟨h.1,_,h.2,rfl⟩)
  refine(runs_ev mixed _ (aLc_0 K B) ⟨⟨⟨⟨⟨⟨⟨⟨⟨⟨⟨⟨trivial,trivial⟩,trivial⟩,trivial⟩,⟨dq hK,dq hB⟩⟩,trivial⟩,trivial⟩,⟨dq hK,dq hB⟩⟩,⟨⟨isBL_wA _ _,isBL_wA _ _⟩,h0⟩⟩,trivial⟩,trivial⟩,trivial⟩,trivial⟩).mono ?_
  rintro e s ⟨rfl,rfl⟩
  exact⟨rfl,by kernel_rfl⟩
end Go.Proofs.Ytbpiocljbkiemaa
