import Derived.Test.YthldpfindbhkeaaZSPvalAeG1
import Derived.Test.YthldpfindbhkeaaZSPvalAeD
set_option linter.unusedSimpArgs false
set_option linter.unusedVariables false
/-! aes: the document's words are the program's. -/
namespace Go.Proofs.Ythldpfindbhkeaa
open Go.RowKit Go.Ev
theorem dw_0 (K:List Int):∀ i,i≤8→dw K i=wd0 K i
  |0,_=>rfl
  | i + 1, h => by
    have hn:∀ Y p,nb K Y i p=K.getD (4*i+p) 0:=fun Y p=>by unfold nb;rw[if_pos (by omega)]
    rw[dw,dw_0 K i (by omega),← wd0_step]
    simp only[dwp,hn]
    simp
theorem getD_a {Y M:List Int} {k:Nat} (h:k<Y.length):(Y ++ M).getD k 0=Y.getD k 0:=by rw[getD_app,if_pos h]
theorem nb_app {K Y M:List Int} {i p:Nat} (hl:Y.length=4*i) (hi:8≤i) (hp:p<4):nb K (Y ++ M) i p=nb K Y i p:=by
  unfold nb cx
  rw[getD_a (by omega),getD_a (by omega),getD_a (by omega)]
theorem rc_tw {i:Nat} (h:i<60):rcV i=twk (i / 8 - 1):=by
  have h':∀ m:Fin 7,IntKind.u8.wrap (1*2 ^ (min (Int.toNat ((m.1:Nat):Int)) 8))=twk m.1:=by decide+kernel
  exact h' ⟨i / 8 - 1,by omega⟩
theorem cx_chg (Y:List Int) {i p:Nat} (hp:p<4) (hi:i<60):cx Y i p=(chgL (w4 Y (i - 1)) i).getD p 0:=by
  unfold cx chgL
  by_cases h0:i%8=0
  · rw [if_pos h0, if_pos h0]
    unfold rcL
    rw[rc_tw hi]
    match p,hp with
    |0,_=>rfl
    |1,_=>rfl
    |2,_=>rfl
    |3,_=>rfl
  · rw [if_neg h0, if_neg h0]
    by_cases h4:i%8=4
    · rw [if_pos h4, if_pos h4]
      match p,hp with
      |0,_=>rfl
      |1,_=>rfl
      |2,_=>rfl
      |3,_=>rfl
    · rw [if_neg h4, if_neg h4]
      match p,hp with
      |0,_=>rfl
      |1,_=>rfl
      |2,_=>rfl
      |3,_=>rfl
theorem nb_s (K Y:List Int) {i p:Nat} (h8:8≤i) (hi:i<60) (hp:p<4):nb K Y i p=(sumL (w4 Y (i - 8)) (chgL (w4 Y (i - 1)) i)).getD p 0:=by
  unfold nb
  rw[if_neg (by omega),cx_chg Y hp hi]
  match p,hp with
  |0,_=>rfl
  |1,_=>rfl
  |2,_=>rfl
  |3,_=>rfl
theorem sumL_4 (B C:List Int): [(sumL B C).getD 0 0] ++ ([(sumL B C).getD 1 0] ++ ([(sumL B C).getD 2 0] ++ [(sumL B C).getD 3 0]))=(sumL B C).take 4:=rfl
theorem dw_wd (K:List Int) (n:Nat):n≤52→dw K (n+8)=wdI K n:=by
  induction n with
  |zero=>intro _;exact dw_0 K 8 (by omega)
  | succ n ih =>
    intro h
    have hl:=dw_len K (n+8)
    rw[show n+1+8=n+8+1 by omega,dw,wdI,← ih (by omega)]
    simp only[dwp]
    have h1:∀ M p,p<4→nb K (dw K (n+8) ++ M) (n+8) p=nb K (dw K (n+8)) (n+8) p:=fun M p hp=>nb_app hl (by omega) hp
    simp only[List.append_assoc,h1 _ 1 (by omega),h1 _ 2 (by omega),h1 _ 3 (by omega)]
    refine congrArg (fun z=>dw K (n+8) ++ z) ?_
    rw[nb_s K _ (p:=0) (by omega) (by omega) (by omega),nb_s K _ (p:=1) (by omega) (by omega) (by omega),nb_s K _ (p:=2) (by omega) (by omega) (by omega),nb_s K _ (p:=3) (by omega) (by omega) (by omega)]
    rw[show n+8 - 8=n by omega,show n+8 - 1=n+7 by omega]
    exact sumL_4 _ _
theorem dw_wdF (K:List Int):dw K 60=wdF K:=dw_wd K 52 (by omega)
end Go.Proofs.Ythldpfindbhkeaa

set_option linter.unusedSimpArgs false
set_option linter.unusedVariables false
/-! aes: blocks enciphered are the same. -/
namespace Go.Proofs.Ythldpfindbhkeaa
open Go.RowKit Go.Ev
theorem by_nat {E:List Int} (h:By E) (k:Nat):∃ n:Nat,E.getD k 0=((n:Nat):Int)∧n<256:=by
  have:=h k
  exact⟨(E.getD k 0).toNat,by omega,by omega⟩
theorem mv1 {n:Nat} (h:n<256):mv 1 (n:Int)=((n:Nat):Int):=by
  have e:mu 1 n=n:=(mu_comm (by decide) h).trans (mu_one h)
  show((mu 1 (Int.toNat ((n:Nat):Int)):Nat):Int)=_
  rw[Int.toNat_natCast,e]
theorem mu2 {n:Nat} (h:n<256):mu 2 n=twN n:=lin_ext (mu_b 2) tw_lin (by decide+kernel) h
theorem mv2 {n:Nat} (h:n<256):mv 2 (n:Int)=((twN n:Nat):Int):=by
  show((mu 2 (Int.toNat ((n:Nat):Int)):Nat):Int)=_
  rw[Int.toNat_natCast,mu2 h]
theorem mv3 {n:Nat} (h:n<256):mv 3 (n:Int)=((twN n ^^^ n:Nat):Int):=by
  have e:mu 3 n=twN n ^^^ n:=by
    have h3:mu (2 ^^^ 1) n=mu 2 n ^^^ mu 1 n:=mu_a n 2 1
    rw[mu2 h,(mu_comm (by decide) h).trans (mu_one h)] at h3
    exact h3
  show((mu 3 (Int.toNat ((n:Nat):Int)):Nat):Int)=_
  rw[Int.toNat_natCast,e]
theorem x_lt {a b:Nat} (ha:a<256) (hb:b<256):a ^^^ b<256:=Nat.xor_lt_two_pow (n:=8) ha hb
def mcN (a b c d:Nat):Nat:=(a ^^^ (((a ^^^ b) ^^^ c) ^^^ d)) ^^^ twN (a ^^^ b)
theorem mcN_eq (a b c d:Nat):mcN a b c d=(((0 ^^^ twN a) ^^^ (twN b ^^^ b)) ^^^ c) ^^^ d:=by
  unfold mcN
  rw[tw_lin,Nat.zero_xor]
  have h1:a ^^^ (((a ^^^ b) ^^^ c) ^^^ d)=(b ^^^ c) ^^^ d:=by
    rw[Nat.xor_assoc,Nat.xor_assoc,← Nat.xor_assoc a a,Nat.xor_self,Nat.zero_xor,← Nat.xor_assoc]
  rw[h1]
  ac_rfl
theorem mrow0 {a b c d:Nat} (ha:a<256) (hb:b<256) (hc:c<256) (hd:d<256):bits .xor .u8 (bits .xor .u8 (bits .xor .u8 (bits .xor .u8 0 (mv 2 (a:Int))) (mv 3 (b:Int))) (mv 1 (c:Int))) (mv 1 (d:Int))=((((0 ^^^ twN a) ^^^ (twN b ^^^ b)) ^^^ c) ^^^ d:Nat):=by
  have ta:=twN_lt ha;have tb:=x_lt (twN_lt hb) hb
  rw[mv2 ha,mv3 hb,mv1 hc,mv1 hd,show(0:Int)=((0:Nat):Int) from rfl,x8 _ _ (by decide) ta,x8 _ _ (x_lt (by decide) ta) tb,x8 _ _ (x_lt (x_lt (by decide) ta) tb) hc,x8 _ _ (x_lt (x_lt (x_lt (by decide) ta) tb) hc) hd]
theorem mrow1 {a b c d:Nat} (ha:a<256) (hb:b<256) (hc:c<256) (hd:d<256):bits .xor .u8 (bits .xor .u8 (bits .xor .u8 (bits .xor .u8 0 (mv 1 (a:Int))) (mv 2 (b:Int))) (mv 3 (c:Int))) (mv 1 (d:Int))=((((0 ^^^ a) ^^^ twN b) ^^^ (twN c ^^^ c)) ^^^ d:Nat):=by
  have tb:=twN_lt hb;have tc:=x_lt (twN_lt hc) hc
  rw[mv1 ha,mv2 hb,mv3 hc,mv1 hd,show(0:Int)=((0:Nat):Int) from rfl,x8 _ _ (by decide) ha,x8 _ _ (x_lt (by decide) ha) tb,x8 _ _ (x_lt (x_lt (by decide) ha) tb) tc,x8 _ _ (x_lt (x_lt (x_lt (by decide) ha) tb) tc) hd]
theorem mrow2 {a b c d:Nat} (ha:a<256) (hb:b<256) (hc:c<256) (hd:d<256):bits .xor .u8 (bits .xor .u8 (bits .xor .u8 (bits .xor .u8 0 (mv 1 (a:Int))) (mv 1 (b:Int))) (mv 2 (c:Int))) (mv 3 (d:Int))=((((0 ^^^ a) ^^^ b) ^^^ twN c) ^^^ (twN d ^^^ d):Nat):=by
  have tc:=twN_lt hc;have td:=x_lt (twN_lt hd) hd
  rw[mv1 ha,mv1 hb,mv2 hc,mv3 hd,show(0:Int)=((0:Nat):Int) from rfl,x8 _ _ (by decide) ha,x8 _ _ (x_lt (by decide) ha) hb,x8 _ _ (x_lt (x_lt (by decide) ha) hb) tc,x8 _ _ (x_lt (x_lt (x_lt (by decide) ha) hb) tc) td]
theorem mrow3 {a b c d:Nat} (ha:a<256) (hb:b<256) (hc:c<256) (hd:d<256):bits .xor .u8 (bits .xor .u8 (bits .xor .u8 (bits .xor .u8 0 (mv 3 (a:Int))) (mv 1 (b:Int))) (mv 1 (c:Int))) (mv 2 (d:Int))=((((0 ^^^ (twN a ^^^ a)) ^^^ b) ^^^ c) ^^^ twN d:Nat):=by
  have ta:=x_lt (twN_lt ha) ha;have td:=twN_lt hd
  rw[mv3 ha,mv1 hb,mv1 hc,mv2 hd,show(0:Int)=((0:Nat):Int) from rfl,x8 _ _ (by decide) ta,x8 _ _ (x_lt (by decide) ta) hb,x8 _ _ (x_lt (x_lt (by decide) ta) hb) hc,x8 _ _ (x_lt (x_lt (x_lt (by decide) ta) hb) hc) td]
theorem mcE_n {E:List Int} {a b c d:Nat} (ea:E.getD 0 0=(a:Int)) (eb:E.getD 1 0=(b:Int)) (ec:E.getD 2 0=(c:Int)) (ed:E.getD 3 0=(d:Int)) (ha:a<256) (hb:b<256) (hc:c<256) (hd:d<256):mcL E= [((mcN a b c d:Nat):Int),(((b ^^^ (((a ^^^ b) ^^^ c) ^^^ d)) ^^^ twN (b ^^^ c):Nat):Int),(((c ^^^ (((a ^^^ b) ^^^ c) ^^^ d)) ^^^ twN (c ^^^ d):Nat):Int),(((d ^^^ (((a ^^^ b) ^^^ c) ^^^ d)) ^^^ twN (d ^^^ a):Nat):Int)]:=by
  have hal:=x_lt (x_lt (x_lt ha hb) hc) hd
  unfold mcL mcE allX mcN
  rw [ea, eb, ec, ed, x8 a b ha hb, x8 _ c (x_lt ha hb) hc, x8 _ d (x_lt (x_lt ha hb) hc) hd, x8 b c hb hc, x8 c d hc hd, x8 d a hd ha, x8 _ _ ha hal, x8 _ _ hb hal, x8 _ _ hc hal, x8 _ _ hd hal,
    tw_eq (x_lt ha hb),tw_eq (x_lt hb hc),tw_eq (x_lt hc hd),tw_eq (x_lt hd ha),
    x8 _ _ (x_lt ha hal) (twN_lt (x_lt ha hb)),x8 _ _ (x_lt hb hal) (twN_lt (x_lt hb hc)),x8 _ _ (x_lt hc hal) (twN_lt (x_lt hc hd)),x8 _ _ (x_lt hd hal) (twN_lt (x_lt hd ha))]
def mdL (E:List Int):List Int:= [bits .xor .u8 (bits .xor .u8 (bits .xor .u8 (bits .xor .u8 0 (mv 2 (E.getD 0 0))) (mv 3 (E.getD 1 0))) (mv 1 (E.getD 2 0))) (mv 1 (E.getD 3 0)),
  bits .xor .u8 (bits .xor .u8 (bits .xor .u8 (bits .xor .u8 0 (mv 1 (E.getD 0 0))) (mv 2 (E.getD 1 0))) (mv 3 (E.getD 2 0))) (mv 1 (E.getD 3 0)),
  bits .xor .u8 (bits .xor .u8 (bits .xor .u8 (bits .xor .u8 0 (mv 1 (E.getD 0 0))) (mv 1 (E.getD 1 0))) (mv 2 (E.getD 2 0))) (mv 3 (E.getD 3 0)),
  bits .xor .u8 (bits .xor .u8 (bits .xor .u8 (bits .xor .u8 0 (mv 3 (E.getD 0 0))) (mv 1 (E.getD 1 0))) (mv 1 (E.getD 2 0))) (mv 2 (E.getD 3 0))]
theorem mdL_eq {E:List Int} (h:By E):mdL E=mcL E:=by
  obtain⟨a,ea,ha⟩:=by_nat h 0
  obtain⟨b,eb,hb⟩:=by_nat h 1
  obtain⟨c,ec,hc⟩:=by_nat h 2
  obtain⟨d,ed,hd⟩:=by_nat h 3
  rw[mcE_n ea eb ec ed ha hb hc hd]
  unfold mdL
  rw[ea,eb,ec,ed,mrow0 ha hb hc hd,mrow1 ha hb hc hd,mrow2 ha hb hc hd,mrow3 ha hb hc hd,mcN_eq]
  have r1:(((0 ^^^ a) ^^^ twN b) ^^^ (twN c ^^^ c)) ^^^ d=(b ^^^ (((a ^^^ b) ^^^ c) ^^^ d)) ^^^ twN (b ^^^ c):=by
    have:=mcN_eq b c d a
    unfold mcN at this
    rw[show((a ^^^ b) ^^^ c) ^^^ d=((b ^^^ c) ^^^ d) ^^^ a by ac_rfl,this,Nat.zero_xor,Nat.zero_xor]
    ac_rfl
  have r2:(((0 ^^^ a) ^^^ b) ^^^ twN c) ^^^ (twN d ^^^ d)=(c ^^^ (((a ^^^ b) ^^^ c) ^^^ d)) ^^^ twN (c ^^^ d):=by
    have:=mcN_eq c d a b
    unfold mcN at this
    rw[show((a ^^^ b) ^^^ c) ^^^ d=((c ^^^ d) ^^^ a) ^^^ b by ac_rfl,this,Nat.zero_xor,Nat.zero_xor]
    ac_rfl
  have r3:(((0 ^^^ (twN a ^^^ a)) ^^^ b) ^^^ c) ^^^ twN d=(d ^^^ (((a ^^^ b) ^^^ c) ^^^ d)) ^^^ twN (d ^^^ a):=by
    have:=mcN_eq d a b c
    unfold mcN at this
    rw[show((a ^^^ b) ^^^ c) ^^^ d=((d ^^^ a) ^^^ b) ^^^ c by ac_rfl,this,Nat.zero_xor,Nat.zero_xor]
    ac_rfl
  rw[r1,r2,r3]
def mxD (E:List Int):List Int:=(List.range 16).map fun i=>(mdL (colL E (i / 4*4))).getD (i%4) 0
theorem itX_mx (E:List Int):itX E 4=mxD E:=by kernel_rfl
theorem mxD_mix {E:List Int} (h:By E):mxD E=mixL E:=List.map_congr_left fun i _=>by rw[mdL_eq (colL_by h _)]
theorem shD_mov (C:List Int):shD C=movL (subL C):=by kernel_rfl
theorem shD_by (C:List Int):By (shD C):=by_ofFn fun _ _=>sbv_b _
theorem docR_enc (W B:List Int):∀ r,r≤13→docR W B r=encR W B r
  |0,_=>rfl
  | r + 1, h => by
    rw[docR,encR,docR_enc W B r (by omega)]
    unfold fin rndL
    rw[if_pos (by omega),itX_mx,mxD_mix (shD_by _),shD_mov]
theorem doc_enc (K B:List Int):docR (dw K 60) B 14=encL K B:=by
  rw[docR,docR_enc _ _ 13 (by omega),dw_wdF]
  unfold fin encL
  rw[if_neg (by omega),shD_mov]
def pdb:Entry Try.prog:=entLLT Try.func43 (by kernel_rfl) (by kernel_rfl) 32 16 (fun K B=> .agg (wA .u8 16 (encL K B))) (fun K B h1 h2=>by rw[← doc_enc];exact aEb_c K B h1 h2)
end Go.Proofs.Ythldpfindbhkeaa
