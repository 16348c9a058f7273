import Derived.Test.YthldpfindbhkeaaZSPvalAeB
set_option linter.unusedSimpArgs false
set_option linter.unusedVariables false
/-! aes: words, blocks. -/
namespace Go.Proofs.Ythldpfindbhkeaa
open Go.RowKit Go.Ev
theorem sumL_by (B C:List Int):By (sumL B C):=by_ofFn fun _ _=>xb _ _ _
theorem eachL_by (B:List Int):By (eachL B):=by_ofFn fun _ _=>sbv_b _
theorem subL_by (B:List Int):By (subL B):=by_ofFn fun _ _=>sbv_b _
theorem movL_by {B:List Int} (h:By B):By (movL B):=by_ofFn fun _ _=>h _
theorem sub_w (B:List Int):subL (dL8 (wA .u8 16 B))=subL B:=List.map_congr_left fun i hi=>by
  have hi:i<16:=by simpa using hi
  rw[dL8_wA,if_pos hi]
theorem mov_w (B:List Int):movL (dL8 (wA .u8 16 B))=movL B:=List.map_congr_left fun i hi=>by
  have hi:i<16:=by simpa using hi
  rw[dL8_wA,if_pos (by omega)]
theorem mix_w (B:List Int):mixL (dL8 (wA .u8 16 B))=mixL B:=List.map_congr_left fun i hi=>by
  have hi:i<16:=by simpa using hi
  have h:colL (dL8 (wA .u8 16 B)) (i / 4*4)=colL B (i / 4*4):=by
    unfold colL
    rw[dL8_wA,dL8_wA,dL8_wA,dL8_wA,if_pos (by omega),if_pos (by omega),if_pos (by omega),if_pos (by omega)]
  rw[h]
def addL (B W:List Int) (o:Nat):List Int:=(List.range 16).map fun i=>bits .xor .u8 (B.getD i 0) (W.getD (o+i) 0)
theorem add_w (B W:List Int) (o:Nat) (ho:o+16≤240):addL (dL8 (wA .u8 16 B)) (dL8 (wA .u8 240 W)) o=addL B W o:=List.map_congr_left fun i hi=>by
  have hi:i<16:=by simpa using hi
  rw[dL8_wA,dL8_wA,if_pos hi,if_pos (by omega)]
theorem addL_by (B W:List Int) (o:Nat):By (addL B W o):=by_ofFn fun _ _=>xb _ _ _
def adO (B W:List Int) (o k:Nat):List Int:=(List.range 16).map fun i=>if i<k then bits .xor .u8 (B.getD i 0) (W.getD (o+i) 0) else B.getD i 0
def aAd_h (i:Nat):Hn:=if i=4 then⟨13,[],[],[],[]⟩ else⟨0,[],[],[],[]⟩
def aAd_a (B W:List Int) (t:Tq) (o n c:Nat):List Value:=([.agg (wA .u8 16 B),.slice (some ⟨0,o,none⟩) n c] ++ (JU 22))
def aAd_b (B W:List Int) (t:Tq) (o n c:Nat):List Value:=([.agg (wA .u8 16 B),.slice (some ⟨0,o,none⟩) n c,.pointer (some ⟨1,0,none⟩),undef,.pointer (some ⟨2,0,none⟩),.int .i64 15,.int .i64 16,.bool false,.int .i64 15,.int .i64 15,.pointer (some ⟨1,15,none⟩),.int .u8 ((adO B W o 15).getD 15 0),.slice (some ⟨0,o,none⟩) n c,.int .i64 15,.int .i64 3,.int .i64 15,.int .i64 3,.pointer (some ⟨0,o+12,none⟩),.pointer (some ⟨0,o+12+3,none⟩),.int .u8 (W.getD (o+12+3) 0),.int .u8 (bits .xor .u8 ((adO B W o 15).getD 15 0) (W.getD (o+12+3) 0)),.pointer (some ⟨1,15,none⟩),.int .i64 16,.agg (wA .u8 16 (adO B W o 16))])
set_option maxRecDepth 100000 in
theorem aAd_0 (B W:List Int) (t:Tq) (o n c:Nat):evC (yty.enf tabB2 1) aAd_h (cAt [] (bdy Try.f50)) ⟨aAd_a B W t o n c,[((wA .u8 240 W),t)],True,[none,some (.int .u8 (B.getD 0 0)),none,none,some (.int .u8 (W.getD (o+0+0) 0)),none,some (.agg (wA .u8 16 (adO B W o 1))),none,none,some (.int .u8 ((adO B W o 1).getD 1 0)),none,none,some (.int .u8 (W.getD (o+0+1) 0)),none,some (.agg (wA .u8 16 (adO B W o 2))),none,none,some (.int .u8 ((adO B W o 2).getD 2 0)),none,none,some (.int .u8 (W.getD (o+0+2) 0)),none,some (.agg (wA .u8 16 (adO B W o 3))),none,none,some (.int .u8 ((adO B W o 3).getD 3 0)),none,none,some (.int .u8 (W.getD (o+0+3) 0)),none,some (.agg (wA .u8 16 (adO B W o 4))),none,none,some (.int .u8 ((adO B W o 4).getD 4 0)),none,none,some (.int .u8 (W.getD (o+4+0) 0)),none,some (.agg (wA .u8 16 (adO B W o 5))),none,none,some (.int .u8 ((adO B W o 5).getD 5 0)),none,none,some (.int .u8 (W.getD (o+4+1) 0)),none,some (.agg (wA .u8 16 (adO B W o 6))),none,none,some (.int .u8 ((adO B W o 6).getD 6 0)),none,none,some (.int .u8 (W.getD (o+4+2) 0)),none,some (.agg (wA .u8 16 (adO B W o 7))),none,none,some (.int .u8 ((adO B W o 7).getD 7 0)),none,none,some (.int .u8 (W.getD (o+4+3) 0)),none,some (.agg (wA .u8 16 (adO B W o 8))),none,none,some (.int .u8 ((adO B W o 8).getD 8 0)),none,none,some (.int .u8 (W.getD (o+8+0) 0)),none,some (.agg (wA .u8 16 (adO B W o 9))),none,none,some (.int .u8 ((adO B W o 9).getD 9 0)),none,none,some (.int .u8 (W.getD (o+8+1) 0)),none,some (.agg (wA .u8 16 (adO B W o 10))),none,none,some (.int .u8 ((adO B W o 10).getD 10 0)),none,none,some (.int .u8 (W.getD (o+8+2) 0)),none,some (.agg (wA .u8 16 (adO B W o 11))),none,none,some (.int .u8 ((adO B W o 11).getD 11 0)),none,none,some (.int .u8 (W.getD (o+8+3) 0)),none,some (.agg (wA .u8 16 (adO B W o 12))),none,none,some (.int .u8 ((adO B W o 12).getD 12 0)),none,none,some (.int .u8 (W.getD (o+12+0) 0)),none,some (.agg (wA .u8 16 (adO B W o 13))),none,none,some (.int .u8 ((adO B W o 13).getD 13 0)),none,none,some (.int .u8 (W.getD (o+12+1) 0)),none,some (.agg (wA .u8 16 (adO B W o 14))),none,none,some (.int .u8 ((adO B W o 14).getD 14 0)),none,none,some (.int .u8 (W.getD (o+12+2) 0)),none,some (.agg (wA .u8 16 (adO B W o 15))),none,none,some (.int .u8 ((adO B W o 15).getD 15 0)),none,none,some (.int .u8 (W.getD (o+12+3) 0)),none,some (.agg (wA .u8 16 (adO B W o 16)))]⟩=some (.ret,⟨aAd_b B W t o n c,[((wA .u8 240 W),t),((wA .u8 16 (adO B W o 16)),(22,(0,0))),((wA .u8 16 (adO B W o 16)),(22,(0,0)))],((((((((((((((((((((((((((((((((((((((((((((((((((((((((((((((((((((((((((((((((((((((((((((((((((((((((((((((((((((((((((((((((((((((((((((((((((((((((((((((((((((((((((((((((((((((((((((((((((((((((((((((((((((((((((((((((((((((((((((((((((((((((((((((((((((((((((((((((((((((((((((((((((((((((((((((((((((True∧True)∧True)∧True)∧True)∧True)∧((0:Int)≤0∧(0:Int)<((16:Nat):Int)))∧(((wA .u8 16 B)[0]? =some (.int .u8 (B.getD 0 0)))∧(B.getD 0 0)=(B.getD 0 0)))∧True)∧True)∧((4:Int)≠0))∧True)∧((4:Int)≠0))∧((0:Int)≤0∧(0:Int)<((n:Nat):Int)))∧((0:Int)≤0∧(0:Int)<((4:Nat):Int)))∧(((wA .u8 240 W)[(o+0+0)]? =some (.int .u8 (W.getD (o+0+0) 0)))∧(W.getD (o+0+0) 0)=(W.getD (o+0+0) 0)))∧True)∧((0:Int)≤0∧(0:Int)<((16:Nat):Int)))∧(0<(wA .u8 16 B).size∧(wA .u8 16 B).setIfInBounds (0) (.int .u8 (bits .xor .u8 (B.getD 0 0) (W.getD (o+0+0) 0)))=(wA .u8 16 (adO B W o 1))))∧True)∧True)∧True)∧True)∧True)∧True)∧((0:Int)≤1∧(1:Int)<((16:Nat):Int)))∧(((wA .u8 16 (adO B W o 1))[1]? =some (.int .u8 ((adO B W o 1).getD 1 0)))∧((adO B W o 1).getD 1 0)=((adO B W o 1).getD 1 0)))∧True)∧True)∧((4:Int)≠0))∧True)∧((4:Int)≠0))∧((0:Int)≤0∧(0:Int)<((n:Nat):Int)))∧((0:Int)≤1∧(1:Int)<((4:Nat):Int)))∧(((wA .u8 240 W)[(o+0+1)]? =some (.int .u8 (W.getD (o+0+1) 0)))∧(W.getD (o+0+1) 0)=(W.getD (o+0+1) 0)))∧True)∧((0:Int)≤1∧(1:Int)<((16:Nat):Int)))∧(1<(wA .u8 16 (adO B W o 1)).size∧(wA .u8 16 (adO B W o 1)).setIfInBounds (1) (.int .u8 (bits .xor .u8 ((adO B W o 1).getD 1 0) (W.getD (o+0+1) 0)))=(wA .u8 16 (adO B W o 2))))∧True)∧True)∧True)∧True)∧True)∧True)∧((0:Int)≤2∧(2:Int)<((16:Nat):Int)))∧(((wA .u8 16 (adO B W o 2))[2]? =some (.int .u8 ((adO B W o 2).getD 2 0)))∧((adO B W o 2).getD 2 0)=((adO B W o 2).getD 2 0)))∧True)∧True)∧((4:Int)≠0))∧True)∧((4:Int)≠0))∧((0:Int)≤0∧(0:Int)<((n:Nat):Int)))∧((0:Int)≤2∧(2:Int)<((4:Nat):Int)))∧(((wA .u8 240 W)[(o+0+2)]? =some (.int .u8 (W.getD (o+0+2) 0)))∧(W.getD (o+0+2) 0)=(W.getD (o+0+2) 0)))∧True)∧((0:Int)≤2∧(2:Int)<((16:Nat):Int)))∧(2<(wA .u8 16 (adO B W o 2)).size∧(wA .u8 16 (adO B W o 2)).setIfInBounds (2) (.int .u8 (bits .xor .u8 ((adO B W o 2).getD 2 0) (W.getD (o+0+2) 0)))=(wA .u8 16 (adO B W o 3))))∧True)∧True)∧True)∧True)∧True)∧True)∧((0:Int)≤3∧(3:Int)<((16:Nat):Int)))∧(((wA .u8 16 (adO B W o 3))[3]? =some (.int .u8 ((adO B W o 3).getD 3 0)))∧((adO B W o 3).getD 3 0)=((adO B W o 3).getD 3 0)))∧True)∧True)∧((4:Int)≠0))∧True)∧((4:Int)≠0))∧((0:Int)≤0∧(0:Int)<((n:Nat):Int)))∧((0:Int)≤3∧(3:Int)<((4:Nat):Int)))∧(((wA .u8 240 W)[(o+0+3)]? =some (.int .u8 (W.getD (o+0+3) 0)))∧(W.getD (o+0+3) 0)=(W.getD (o+0+3) 0)))∧True)∧((0:Int)≤3∧(3:Int)<((16:Nat):Int)))∧(3<(wA .u8 16 (adO B W o 3)).size∧(wA .u8 16 (adO B W o 3)).setIfInBounds (3) (.int .u8 (bits .xor .u8 ((adO B W o 3).getD 3 0) (W.getD (o+0+3) 0)))=(wA .u8 16 (adO B W o 4))))∧True)∧True)∧True)∧True)∧True)∧True)∧((0:Int)≤4∧(4:Int)<((16:Nat):Int)))∧(((wA .u8 16 (adO B W o 4))[4]? =some (.int .u8 ((adO B W o 4).getD 4 0)))∧((adO B W o 4).getD 4 0)=((adO B W o 4).getD 4 0)))∧True)∧True)∧((4:Int)≠0))∧True)∧((4:Int)≠0))∧((0:Int)≤1∧(1:Int)<((n:Nat):Int)))∧((0:Int)≤0∧(0:Int)<((4:Nat):Int)))∧(((wA .u8 240 W)[(o+4+0)]? =some (.int .u8 (W.getD (o+4+0) 0)))∧(W.getD (o+4+0) 0)=(W.getD (o+4+0) 0)))∧True)∧((0:Int)≤4∧(4:Int)<((16:Nat):Int)))∧(4<(wA .u8 16 (adO B W o 4)).size∧(wA .u8 16 (adO B W o 4)).setIfInBounds (4) (.int .u8 (bits .xor .u8 ((adO B W o 4).getD 4 0) (W.getD (o+4+0) 0)))=(wA .u8 16 (adO B W o 5))))∧True)∧True)∧True)∧True)∧True)∧True)∧((0:Int)≤5∧(5:Int)<((16:Nat):Int)))∧(((wA .u8 16 (adO B W o 5))[5]? =some (.int .u8 ((adO B W o 5).getD 5 0)))∧((adO B W o 5).getD 5 0)=((adO B W o 5).getD 5 0)))∧True)∧True)∧((4:Int)≠0))∧True)∧((4:Int)≠0))∧((0:Int)≤1∧(1:Int)<((n:Nat):Int)))∧((0:Int)≤1∧(1:Int)<((4:Nat):Int)))∧(((wA .u8 240 W)[(o+4+1)]? =some (.int .u8 (W.getD (o+4+1) 0)))∧(W.getD (o+4+1) 0)=(W.getD (o+4+1) 0)))∧True)∧((0:Int)≤5∧(5:Int)<((16:Nat):Int)))∧(5<(wA .u8 16 (adO B W o 5)).size∧(wA .u8 16 (adO B W o 5)).setIfInBounds (5) (.int .u8 (bits .xor .u8 ((adO B W o 5).getD 5 0) (W.getD (o+4+1) 0)))=(wA .u8 16 (adO B W o 6))))∧True)∧True)∧True)∧True)∧True)∧True)∧((0:Int)≤6∧(6:Int)<((16:Nat):Int)))∧(((wA .u8 16 (adO B W o 6))[6]? =some (.int .u8 ((adO B W o 6).getD 6 0)))∧((adO B W o 6).getD 6 0)=((adO B W o 6).getD 6 0)))∧True)∧True)∧((4:Int)≠0))∧True)∧((4:Int)≠0))∧((0:Int)≤1∧(1:Int)<((n:Nat):Int)))∧((0:Int)≤2∧(2:Int)<((4:Nat):Int)))∧(((wA .u8 240 W)[(o+4+2)]? =some (.int .u8 (W.getD (o+4+2) 0)))∧(W.getD (o+4+2) 0)=(W.getD (o+4+2) 0)))∧True)∧((0:Int)≤6∧(6:Int)<((16:Nat):Int)))∧(6<(wA .u8 16 (adO B W o 6)).size∧(wA .u8 16 (adO B W o 6)).setIfInBounds (6) (.int .u8 (bits .xor .u8 ((adO B W o 6).getD 6 0) (W.getD (o+4+2) 0)))=(wA .u8 16 (adO B W o 7))))∧True)∧True)∧True)∧True)∧True)∧True)∧((0:Int)≤7∧(7:Int)<((16:Nat):Int)))∧(((wA .u8 16 (adO B W o 7))[7]? =some (.int .u8 ((adO B W o 7).getD 7 0)))∧((adO B W o 7).getD 7 0)=((adO B W o 7).getD 7 0)))∧True)∧True)∧((4:Int)≠0))∧True)∧((4:Int)≠0))∧((0:Int)≤1∧(1:Int)<((n:Nat):Int)))∧((0:Int)≤3∧(3:Int)<((4:Nat):Int)))∧(((wA .u8 240 W)[(o+4+3)]? =some (.int .u8 (W.getD (o+4+3) 0)))∧(W.getD (o+4+3) 0)=(W.getD (o+4+3) 0)))∧True)∧((0:Int)≤7∧(7:Int)<((16:Nat):Int)))∧(7<(wA .u8 16 (adO B W o 7)).size∧(wA .u8 16 (adO B W o 7)).setIfInBounds (7) (.int .u8 (bits .xor .u8 ((adO B W o 7).getD 7 0) (W.getD (o+4+3) 0)))=(wA .u8 16 (adO B W o 8))))∧True)∧True)∧True)∧True)∧True)∧True)∧((0:Int)≤8∧(8:Int)<((16:Nat):Int)))∧(((wA .u8 16 (adO B W o 8))[8]? =some (.int .u8 ((adO B W o 8).getD 8 0)))∧((adO B W o 8).getD 8 0)=((adO B W o 8).getD 8 0)))∧True)∧True)∧((4:Int)≠0))∧True)∧((4:Int)≠0))∧((0:Int)≤2∧(2:Int)<((n:Nat):Int)))∧((0:Int)≤0∧(0:Int)<((4:Nat):Int)))∧(((wA .u8 240 W)[(o+8+0)]? =some (.int .u8 (W.getD (o+8+0) 0)))∧(W.getD (o+8+0) 0)=(W.getD (o+8+0) 0)))∧True)∧((0:Int)≤8∧(8:Int)<((16:Nat):Int)))∧(8<(wA .u8 16 (adO B W o 8)).size∧(wA .u8 16 (adO B W o 8)).setIfInBounds (8) (.int .u8 (bits .xor .u8 ((adO B W o 8).getD 8 0) (W.getD (o+8+0) 0)))=(wA .u8 16 (adO B W o 9))))∧True)∧True)∧True)∧True)∧True)∧True)∧((0:Int)≤9∧(9:Int)<((16:Nat):Int)))∧(((wA .u8 16 (adO B W o 9))[9]? =some (.int .u8 ((adO B W o 9).getD 9 0)))∧((adO B W o 9).getD 9 0)=((adO B W o 9).getD 9 0)))∧True)∧True)∧((4:Int)≠0))∧True)∧((4:Int)≠0))∧((0:Int)≤2∧(2:Int)<((n:Nat):Int)))∧((0:Int)≤1∧(1:Int)<((4:Nat):Int)))∧(((wA .u8 240 W)[(o+8+1)]? =some (.int .u8 (W.getD (o+8+1) 0)))∧(W.getD (o+8+1) 0)=(W.getD (o+8+1) 0)))∧True)∧((0:Int)≤9∧(9:Int)<((16:Nat):Int)))∧(9<(wA .u8 16 (adO B W o 9)).size∧(wA .u8 16 (adO B W o 9)).setIfInBounds (9) (.int .u8 (bits .xor .u8 ((adO B W o 9).getD 9 0) (W.getD (o+8+1) 0)))=(wA .u8 16 (adO B W o 10))))∧True)∧True)∧True)∧True)∧True)∧True)∧((0:Int)≤10∧(10:Int)<((16:Nat):Int)))∧(((wA .u8 16 (adO B W o 10))[10]? =some (.int .u8 ((adO B W o 10).getD 10 0)))∧((adO B W o 10).getD 10 0)=((adO B W o 10).getD 10 0)))∧True)∧True)∧((4:Int)≠0))∧True)∧((4:Int)≠0))∧((0:Int)≤2∧(2:Int)<((n:Nat):Int)))∧((0:Int)≤2∧(2:Int)<((4:Nat):Int)))∧(((wA .u8 240 W)[(o+8+2)]? =some (.int .u8 (W.getD (o+8+2) 0)))∧(W.getD (o+8+2) 0)=(W.getD (o+8+2) 0)))∧True)∧((0:Int)≤10∧(10:Int)<((16:Nat):Int)))∧(10<(wA .u8 16 (adO B W o 10)).size∧(wA .u8 16 (adO B W o 10)).setIfInBounds (10) (.int .u8 (bits .xor .u8 ((adO B W o 10).getD 10 0) (W.getD (o+8+2) 0)))=(wA .u8 16 (adO B W o 11))))∧True)∧True)∧True)∧True)∧True)∧True)∧((0:Int)≤11∧(11:Int)<((16:Nat):Int)))∧(((wA .u8 16 (adO B W o 11))[11]? =some (.int .u8 ((adO B W o 11).getD 11 0)))∧((adO B W o 11).getD 11 0)=((adO B W o 11).getD 11 0)))∧True)∧True)∧((4:Int)≠0))∧True)∧((4:Int)≠0))∧((0:Int)≤2∧(2:Int)<((n:Nat):Int)))∧((0:Int)≤3∧(3:Int)<((4:Nat):Int)))∧(((wA .u8 240 W)[(o+8+3)]? =some (.int .u8 (W.getD (o+8+3) 0)))∧(W.getD (o+8+3) 0)=(W.getD (o+8+3) 0)))∧True)∧((0:Int)≤11∧(11:Int)<((16:Nat):Int)))∧(11<(wA .u8 16 (adO B W o 11)).size∧(wA .u8 16 (adO B W o 11)).setIfInBounds (11) (.int .u8 (bits .xor .u8 ((adO B W o 11).getD 11 0) (W.getD (o+8+3) 0)))=(wA .u8 16 (adO B W o 12))))∧True)∧True)∧True)∧True)∧True)∧True)∧((0:Int)≤12∧(12:Int)<((16:Nat):Int)))∧(((wA .u8 16 (adO B W o 12))[12]? =some (.int .u8 ((adO B W o 12).getD 12 0)))∧((adO B W o 12).getD 12 0)=((adO B W o 12).getD 12 0)))∧True)∧True)∧((4:Int)≠0))∧True)∧((4:Int)≠0))∧((0:Int)≤3∧(3:Int)<((n:Nat):Int)))∧((0:Int)≤0∧(0:Int)<((4:Nat):Int)))∧(((wA .u8 240 W)[(o+12+0)]? =some (.int .u8 (W.getD (o+12+0) 0)))∧(W.getD (o+12+0) 0)=(W.getD (o+12+0) 0)))∧True)∧((0:Int)≤12∧(12:Int)<((16:Nat):Int)))∧(12<(wA .u8 16 (adO B W o 12)).size∧(wA .u8 16 (adO B W o 12)).setIfInBounds (12) (.int .u8 (bits .xor .u8 ((adO B W o 12).getD 12 0) (W.getD (o+12+0) 0)))=(wA .u8 16 (adO B W o 13))))∧True)∧True)∧True)∧True)∧True)∧True)∧((0:Int)≤13∧(13:Int)<((16:Nat):Int)))∧(((wA .u8 16 (adO B W o 13))[13]? =some (.int .u8 ((adO B W o 13).getD 13 0)))∧((adO B W o 13).getD 13 0)=((adO B W o 13).getD 13 0)))∧True)∧True)∧((4:Int)≠0))∧True)∧((4:Int)≠0))∧((0:Int)≤3∧(3:Int)<((n:Nat):Int)))∧((0:Int)≤1∧(1:Int)<((4:Nat):Int)))∧(((wA .u8 240 W)[(o+12+1)]? =some (.int .u8 (W.getD (o+12+1) 0)))∧(W.getD (o+12+1) 0)=(W.getD (o+12+1) 0)))∧True)∧((0:Int)≤13∧(13:Int)<((16:Nat):Int)))∧(13<(wA .u8 16 (adO B W o 13)).size∧(wA .u8 16 (adO B W o 13)).setIfInBounds (13) (.int .u8 (bits .xor .u8 ((adO B W o 13).getD 13 0) (W.getD (o+12+1) 0)))=(wA .u8 16 (adO B W o 14))))∧True)∧True)∧True)∧True)∧True)∧True)∧((0:Int)≤14∧(14:Int)<((16:Nat):Int)))∧(((wA .u8 16 (adO B W o 14))[14]? =some (.int .u8 ((adO B W o 14).getD 14 0)))∧((adO B W o 14).getD 14 0)=((adO B W o 14).getD 14 0)))∧True)∧True)∧((4:Int)≠0))∧True)∧((4:Int)≠0))∧((0:Int)≤3∧(3:Int)<((n:Nat):Int)))∧((0:Int)≤2∧(2:Int)<((4:Nat):Int)))∧(((wA .u8 240 W)[(o+12+2)]? =some (.int .u8 (W.getD (o+12+2) 0)))∧(W.getD (o+12+2) 0)=(W.getD (o+12+2) 0)))∧True)∧((0:Int)≤14∧(14:Int)<((16:Nat):Int)))∧(14<(wA .u8 16 (adO B W o 14)).size∧(wA .u8 16 (adO B W o 14)).setIfInBounds (14) (.int .u8 (bits .xor .u8 ((adO B W o 14).getD 14 0) (W.getD (o+12+2) 0)))=(wA .u8 16 (adO B W o 15))))∧True)∧True)∧True)∧True)∧True)∧True)∧((0:Int)≤15∧(15:Int)<((16:Nat):Int)))∧(((wA .u8 16 (adO B W o 15))[15]? =some (.int .u8 ((adO B W o 15).getD 15 0)))∧((adO B W o 15).getD 15 0)=((adO B W o 15).getD 15 0)))∧True)∧True)∧((4:Int)≠0))∧True)∧((4:Int)≠0))∧((0:Int)≤3∧(3:Int)<((n:Nat):Int)))∧((0:Int)≤3∧(3:Int)<((4:Nat):Int)))∧(((wA .u8 240 W)[(o+12+3)]? =some (.int .u8 (W.getD (o+12+3) 0)))∧(W.getD (o+12+3) 0)=(W.getD (o+12+3) 0)))∧True)∧((0:Int)≤15∧(15:Int)<((16:Nat):Int)))∧(15<(wA .u8 16 (adO B W o 15)).size∧(wA .u8 16 (adO B W o 15)).setIfInBounds (15) (.int .u8 (bits .xor .u8 ((adO B W o 15).getD 15 0) (W.getD (o+12+3) 0)))=(wA .u8 16 (adO B W o 16))))∧True)∧True)∧True)∧True)∧((wA .u8 16 (adO B W o 16)).all (fun v=>v.oneCell')=true)),[]⟩):=by kernel_rfl
set_option maxRecDepth 100000 in
set_option maxHeartbeats 4000000 in
theorem aAd_c (B W:List Int) (t:Tq) (o n c:Nat) (hn:4≤n) (ho:o+16≤240):Reads Try.prog 50 [((wA .u8 240 W),t)] [.agg (wA .u8 16 B),.slice (some ⟨0,o,none⟩) n c] (.agg (wA .u8 16 (addL B W o))):=by
  refine reads_runs (fk:=1) (yty.enf tabB2 1) Try.func50 (c:=bdy Try.f50) (by kernel_rfl) ⟨by rfl,by decide⟩ (args:= [.agg (wA .u8 16 B),.slice (some ⟨0,o,none⟩) n c]) (by kernel_rfl) (K:=fun e s=>e= .ret∧resS (yty.enf tabB2 1) s Try.f50.results.toList=some [.agg (wA .u8 16 (addL B W o))]) ?_ (fun e s h=>⟨h.1,_,h.2,rfl⟩)
  refine(runs_ev mixed _ (aAd_0 B W t o n c) ⟨⟨⟨⟨⟨⟨⟨⟨⟨⟨⟨⟨⟨⟨⟨⟨⟨⟨⟨⟨⟨⟨⟨⟨⟨⟨⟨⟨⟨⟨⟨⟨⟨⟨⟨⟨⟨⟨⟨⟨⟨⟨⟨⟨⟨⟨⟨⟨⟨⟨⟨⟨⟨⟨⟨⟨⟨⟨⟨⟨⟨⟨⟨⟨⟨⟨⟨⟨⟨⟨⟨⟨⟨⟨⟨⟨⟨⟨⟨⟨⟨⟨⟨⟨⟨⟨⟨⟨⟨⟨⟨⟨⟨⟨⟨⟨⟨⟨⟨⟨⟨⟨⟨⟨⟨⟨⟨⟨⟨⟨⟨⟨⟨⟨⟨⟨⟨⟨⟨⟨⟨⟨⟨⟨⟨⟨⟨⟨⟨⟨⟨⟨⟨⟨⟨⟨⟨⟨⟨⟨⟨⟨⟨⟨⟨⟨⟨⟨⟨⟨⟨⟨⟨⟨⟨⟨⟨⟨⟨⟨⟨⟨⟨⟨⟨⟨⟨⟨⟨⟨⟨⟨⟨⟨⟨⟨⟨⟨⟨⟨⟨⟨⟨⟨⟨⟨⟨⟨⟨⟨⟨⟨⟨⟨⟨⟨⟨⟨⟨⟨⟨⟨⟨⟨⟨⟨⟨⟨⟨⟨⟨⟨⟨⟨⟨⟨⟨⟨⟨⟨⟨⟨⟨⟨⟨⟨⟨⟨⟨⟨⟨⟨⟨⟨⟨⟨⟨⟨⟨⟨⟨⟨⟨⟨⟨⟨⟨⟨⟨⟨⟨⟨⟨⟨⟨⟨⟨⟨⟨⟨⟨⟨⟨⟨⟨⟨⟨⟨⟨⟨⟨⟨⟨⟨⟨⟨⟨⟨⟨⟨⟨⟨⟨⟨⟨⟨⟨⟨⟨⟨⟨⟨⟨⟨⟨⟨⟨⟨⟨⟨⟨⟨⟨⟨⟨⟨⟨⟨trivial,trivial⟩,trivial⟩,trivial⟩,trivial⟩,trivial⟩,⟨by decide,by decide⟩⟩,⟨(wA_get (by omega) (by omega)),rfl⟩⟩,trivial⟩,trivial⟩,(by decide)⟩,trivial⟩,(by decide)⟩,(by(try simp only[Int.toNat_natCast,wA_size]);omega)⟩,⟨by decide,by decide⟩⟩,⟨(wA_get (by omega) (by omega)),rfl⟩⟩,trivial⟩,⟨by decide,by decide⟩⟩,⟨by rw[wA_size];omega,by kernel_rfl⟩⟩,trivial⟩,trivial⟩,trivial⟩,trivial⟩,trivial⟩,trivial⟩,⟨by decide,by decide⟩⟩,⟨(wA_get (by omega) (by omega)),rfl⟩⟩,trivial⟩,trivial⟩,(by decide)⟩,trivial⟩,(by decide)⟩,(by(try simp only[Int.toNat_natCast,wA_size]);omega)⟩,⟨by decide,by decide⟩⟩,⟨(wA_get (by omega) (by omega)),rfl⟩⟩,trivial⟩,⟨by decide,by decide⟩⟩,⟨by rw[wA_size];omega,by kernel_rfl⟩⟩,trivial⟩,trivial⟩,trivial⟩,trivial⟩,trivial⟩,trivial⟩,⟨by decide,by decide⟩⟩,⟨(wA_get (by omega) (by omega)),rfl⟩⟩,trivial⟩,trivial⟩,(by decide)⟩,trivial⟩,(by decide)⟩,(by(try simp only[Int.toNat_natCast,wA_size]);omega)⟩,⟨by decide,by decide⟩⟩,⟨(wA_get (by omega) (by omega)),rfl⟩⟩,trivial⟩,⟨by decide,by decide⟩⟩,⟨by rw[wA_size];omega,by kernel_rfl⟩⟩,trivial⟩,trivial⟩,trivial⟩,trivial⟩,trivial⟩,trivial⟩,⟨by decide,by decide⟩⟩,⟨(wA_get (by omega) (by omega)),rfl⟩⟩,trivial⟩,trivial⟩,(by decide)⟩,trivial⟩,(by decide)⟩,(by(try simp only[Int.toNat_natCast,wA_size]);omega)⟩,⟨by decide,by decide⟩⟩,⟨(wA_get (by omega) (by omega)),rfl⟩⟩,trivial⟩,⟨by decide,by decide⟩⟩,⟨by rw[wA_size];omega,by kernel_rfl⟩⟩,trivial⟩,trivial⟩,trivial⟩,trivial⟩,trivial⟩,trivial⟩,⟨by decide,by decide⟩⟩,⟨(wA_get (by omega) (by omega)),rfl⟩⟩,trivial⟩,trivial⟩,(by decide)⟩,trivial⟩,(by decide)⟩,(by(try simp only[Int.toNat_natCast,wA_size]);omega)⟩,⟨by decide,by decide⟩⟩,⟨(wA_get (by omega) (by omega)),rfl⟩⟩,trivial⟩,⟨by decide,by decide⟩⟩,⟨by rw[wA_size];omega,by kernel_rfl⟩⟩,trivial⟩,trivial⟩,trivial⟩,trivial⟩,trivial⟩,trivial⟩,⟨by decide,by decide⟩⟩,⟨(wA_get (by omega) (by omega)),rfl⟩⟩,trivial⟩,trivial⟩,(by decide)⟩,trivial⟩,(by decide)⟩,(by(try simp only[Int.toNat_natCast,wA_size]);omega)⟩,⟨by decide,by decide⟩⟩,⟨(wA_get (by omega) (by omega)),rfl⟩⟩,trivial⟩,⟨by decide,by decide⟩⟩,⟨by rw[wA_size];omega,by kernel_rfl⟩⟩,trivial⟩,trivial⟩,trivial⟩,trivial⟩,trivial⟩,trivial⟩,⟨by decide,by decide⟩⟩,⟨(wA_get (by omega) (by omega)),rfl⟩⟩,trivial⟩,trivial⟩,(by decide)⟩,trivial⟩,(by decide)⟩,(by(try simp only[Int.toNat_natCast,wA_size]);omega)⟩,⟨by decide,by decide⟩⟩,⟨(wA_get (by omega) (by omega)),rfl⟩⟩,trivial⟩,⟨by decide,by decide⟩⟩,⟨by rw[wA_size];omega,by kernel_rfl⟩⟩,trivial⟩,trivial⟩,trivial⟩,trivial⟩,trivial⟩,trivial⟩,⟨by decide,by decide⟩⟩,⟨(wA_get (by omega) (by omega)),rfl⟩⟩,trivial⟩,trivial⟩,(by decide)⟩,trivial⟩,(by decide)⟩,(by(try simp only[Int.toNat_natCast,wA_size]);omega)⟩,⟨by decide,by decide⟩⟩,⟨(wA_get (by omega) (by omega)),rfl⟩⟩,trivial⟩,⟨by decide,by decide⟩⟩,⟨by rw[wA_size];omega,by kernel_rfl⟩⟩,trivial⟩,trivial⟩,trivial⟩,trivial⟩,trivial⟩,trivial⟩,⟨by decide,by decide⟩⟩,⟨(wA_get (by omega) (by omega)),rfl⟩⟩,trivial⟩,trivial⟩,(by decide)⟩,trivial⟩,(by decide)⟩,(by(try simp only[Int.toNat_natCast,wA_size]);omega)⟩,⟨by decide,by decide⟩⟩,⟨(wA_get (by omega) (by omega)),rfl⟩⟩,trivial⟩,⟨by decide,by decide⟩⟩,⟨by rw[wA_size];omega,by kernel_rfl⟩⟩,trivial⟩,trivial⟩,trivial⟩,trivial⟩,trivial⟩,trivial⟩,⟨by decide,by decide⟩⟩,⟨(wA_get (by omega) (by omega)),rfl⟩⟩,trivial⟩,trivial⟩,(by decide)⟩,trivial⟩,(by decide)⟩,(by(try simp only[Int.toNat_natCast,wA_size]);omega)⟩,⟨by decide,by decide⟩⟩,⟨(wA_get (by omega) (by omega)),rfl⟩⟩,trivial⟩,⟨by decide,by decide⟩⟩,⟨by rw[wA_size];omega,by kernel_rfl⟩⟩,trivial⟩,trivial⟩,trivial⟩,trivial⟩,trivial⟩,trivial⟩,⟨by decide,by decide⟩⟩,⟨(wA_get (by omega) (by omega)),rfl⟩⟩,trivial⟩,trivial⟩,(by decide)⟩,trivial⟩,(by decide)⟩,(by(try simp only[Int.toNat_natCast,wA_size]);omega)⟩,⟨by decide,by decide⟩⟩,⟨(wA_get (by omega) (by omega)),rfl⟩⟩,trivial⟩,⟨by decide,by decide⟩⟩,⟨by rw[wA_size];omega,by kernel_rfl⟩⟩,trivial⟩,trivial⟩,trivial⟩,trivial⟩,trivial⟩,trivial⟩,⟨by decide,by decide⟩⟩,⟨(wA_get (by omega) (by omega)),rfl⟩⟩,trivial⟩,trivial⟩,(by decide)⟩,trivial⟩,(by decide)⟩,(by(try simp only[Int.toNat_natCast,wA_size]);omega)⟩,⟨by decide,by decide⟩⟩,⟨(wA_get (by omega) (by omega)),rfl⟩⟩,trivial⟩,⟨by decide,by decide⟩⟩,⟨by rw[wA_size];omega,by kernel_rfl⟩⟩,trivial⟩,trivial⟩,trivial⟩,trivial⟩,trivial⟩,trivial⟩,⟨by decide,by decide⟩⟩,⟨(wA_get (by omega) (by omega)),rfl⟩⟩,trivial⟩,trivial⟩,(by decide)⟩,trivial⟩,(by decide)⟩,(by(try simp only[Int.toNat_natCast,wA_size]);omega)⟩,⟨by decide,by decide⟩⟩,⟨(wA_get (by omega) (by omega)),rfl⟩⟩,trivial⟩,⟨by decide,by decide⟩⟩,⟨by rw[wA_size];omega,by kernel_rfl⟩⟩,trivial⟩,trivial⟩,trivial⟩,trivial⟩,trivial⟩,trivial⟩,⟨by decide,by decide⟩⟩,⟨(wA_get (by omega) (by omega)),rfl⟩⟩,trivial⟩,trivial⟩,(by decide)⟩,trivial⟩,(by decide)⟩,(by(try simp only[Int.toNat_natCast,wA_size]);omega)⟩,⟨by decide,by decide⟩⟩,⟨(wA_get (by omega) (by omega)),rfl⟩⟩,trivial⟩,⟨by decide,by decide⟩⟩,⟨by rw[wA_size];omega,by kernel_rfl⟩⟩,trivial⟩,trivial⟩,trivial⟩,trivial⟩,trivial⟩,trivial⟩,⟨by decide,by decide⟩⟩,⟨(wA_get (by omega) (by omega)),rfl⟩⟩,trivial⟩,trivial⟩,(by decide)⟩,trivial⟩,(by decide)⟩,(by(try simp only[Int.toNat_natCast,wA_size]);omega)⟩,⟨by decide,by decide⟩⟩,⟨(wA_get (by omega) (by omega)),rfl⟩⟩,trivial⟩,⟨by decide,by decide⟩⟩,⟨by rw[wA_size];omega,by kernel_rfl⟩⟩,trivial⟩,trivial⟩,trivial⟩,trivial⟩,trivial⟩,trivial⟩,⟨by decide,by decide⟩⟩,⟨(wA_get (by omega) (by omega)),rfl⟩⟩,trivial⟩,trivial⟩,(by decide)⟩,trivial⟩,(by decide)⟩,(by(try simp only[Int.toNat_natCast,wA_size]);omega)⟩,⟨by decide,by decide⟩⟩,⟨(wA_get (by omega) (by omega)),rfl⟩⟩,trivial⟩,⟨by decide,by decide⟩⟩,⟨by rw[wA_size];omega,by kernel_rfl⟩⟩,trivial⟩,trivial⟩,trivial⟩,trivial⟩,wA_one _ _ _⟩).mono ?_
  rintro e s ⟨rfl,rfl⟩
  exact⟨rfl,by kernel_rfl⟩
section
variable {P:Program} {f:FuncId} {fn:Func} (hf:P.funcs[f]? =some fn) (hn:(fn.name == "runtime.NumGoroutine")=false) (hb:fn.body.isNone=false)
def entAd (F : List Int → List Int → Nat → Value) (h : ∀ B W t o n c, 4 ≤ n → o + 16 ≤ 240 → Reads P f [(wA .u8 240 W, t)] [.agg (wA .u8 16 B), .slice (some ⟨0, o, none⟩) n c] (F B W o)) : Entry P where
  f:=f
  g := fun mem xs => match xs with
    | [.agg b, .slice (some ⟨i, o, none⟩) n _] => (match mem[i]? with
      |some (a,_)=>some (F (dL8 b) (dL8 a) o,(b=wA .u8 16 (dL8 b)∧a=wA .u8 240 (dL8 a)∧4≤n∧o+16≤240))
      |none=>none)
    |_=>none
  ok := fun mem xs v c e hc w β hw _ => by
    split at e
    · rename_i b i o n c0
      split at e
      · rename_i a t hm
        simp only[Option.some.injEq,Prod.mk.injEq] at e
        obtain⟨rfl,rfl⟩:=e
        have h1 := h (dL8 b) (dL8 a) t o n c0 hc.2.2.1 hc.2.2.2 w (fun _ => β i) (fun j x hx => by
          cases j with
          | zero =>
            simp only[List.getElem?_cons_zero,Option.some.injEq] at hx
            subst hx
            have:=hw i _ hm
            rw[← hc.2.1]
            exact this
          |succ j=>simp at hx) (fun i h=>by simp at h)
        rw[← hc.1] at h1
        exact h1
      · cases e
    · cases e
  call:=call_of hf hn hb
def entCh (F : List Int → Nat → Value) (h : ∀ B i, By B → 8 ≤ i → i < 60 → Pure P f #[.agg (wA .u8 4 B), .int .i64 ((i : Nat) : Int)] (F B i)) : Entry P where
  f:=f
  g:=fun _ xs=>match xs with| [.agg a,.int k n]=>some (F (dL8 a) n.toNat,((a=wA .u8 4 (dL8 a)∧By (dL8 a))∧k= .i64∧8≤n∧n<60))|_=>none
  ok := fun _ xs u c e hc w β _ _ => by
    split at e
    · simp only [Option.some.injEq, Prod.mk.injEq] at e
      obtain⟨rfl,rfl⟩:=e
      obtain⟨hc,rfl,h8,h60⟩:=hc
      rename_i n
      have:=h _ n.toNat hc.2 (by omega) (by omega) w
      rw[← hc.1,Int.toNat_of_nonneg (show 0≤n by omega)] at this
      exact this
    · cases e
  call:=call_of hf hn hb
end
def pad:Entry Try.prog:=entAd Try.func50 (by kernel_rfl) (by kernel_rfl) (fun B W o=> .agg (wA .u8 16 (addL B W o))) (fun B W t o n c h1 h2=>aAd_c B W t o n c h1 h2)
def rcV (i:Nat):Int:=IntKind.u8.wrap (1*2 ^ (min (Int.toNat ((i / 8 - 1:Nat):Int)) 8))
def rotL (B:List Int):List Int:= [B.getD 1 0,B.getD 2 0,B.getD 3 0,B.getD 0 0]
theorem rotL_by {B:List Int} (h:By B):By (rotL B):=by_cons (h _) (by_cons (h _) (by_cons (h _) (by_cons (h _) by_nil)))
def rcL (C:List Int) (i:Nat):List Int:= [bits .xor .u8 (C.getD 0 0) (rcV i),C.getD 1 0,C.getD 2 0,C.getD 3 0]
def chgL (B:List Int) (i:Nat):List Int:=if i%8=0 then rcL (eachL (rotL B)) i else if i%8=4 then eachL B else B
theorem chgL_by {B:List Int} (h:By B) (i:Nat):By (chgL B i):=by
  unfold chgL
  split
  · exact by_cons (xb _ _ _) (by_cons (eachL_by _ _) (by_cons (eachL_by _ _) (by_cons (eachL_by _ _) by_nil)))
  · split
    · exact eachL_by _
    · exact h
def aC0_h (i:Nat):Hn:=if i=4 then⟨8,[],[],[],[]⟩ else⟨0,[],[],[],[]⟩
def aC0_a (B:List Int) (i:Nat):List Value:=([.agg (wA .u8 4 B),.int .i64 ((i:Nat):Int)] ++ (JU 30))
def aC0_b (B:List Int) (i:Nat):List Value:=([.agg (wA .u8 4 B),.int .i64 ((i:Nat):Int),.pointer (some ⟨0,0,none⟩),undef,.pointer (some ⟨1,0,none⟩),.int .i64 ((i:Nat):Int),.int .i64 ((i%8:Nat):Int),.bool true,.bool true,.pointer (some ⟨0,1,none⟩),.int .u8 (B.getD 1 0),.pointer (some ⟨0,2,none⟩),.int .u8 (B.getD 2 0),.pointer (some ⟨0,3,none⟩),.int .u8 (B.getD 3 0),.pointer (some ⟨0,0,none⟩),.int .u8 (B.getD 0 0),.agg (wA .u8 4 [(B.getD 1 0),(B.getD 2 0),(B.getD 3 0),(B.getD 0 0)]),.agg (wA .u8 4 (eachL ([(B.getD 1 0),(B.getD 2 0),(B.getD 3 0),(B.getD 0 0)]))),.pointer (some ⟨0,0,none⟩),.int .u8 ((eachL ([(B.getD 1 0),(B.getD 2 0),(B.getD 3 0),(B.getD 0 0)])).getD 0 0),.int .i64 ((i:Nat):Int),.int .i64 ((i / 8:Nat):Int),.int .i64 ((i / 8 - 1:Nat):Int),.int .u8 (IntKind.u8.wrap (1*2 ^ (min (Int.toNat ((i / 8 - 1:Nat):Int)) 8))),.int .u8 (bits .xor .u8 ((eachL ([(B.getD 1 0),(B.getD 2 0),(B.getD 3 0),(B.getD 0 0)])).getD 0 0) (IntKind.u8.wrap (1*2 ^ (min (Int.toNat ((i / 8 - 1:Nat):Int)) 8)))),.pointer (some ⟨0,0,none⟩)] ++ (JU 4 ++ ([.agg (wA .u8 4 (lset 4 (eachL ([(B.getD 1 0),(B.getD 2 0),(B.getD 3 0),(B.getD 0 0)])) 0 (bits .xor .u8 ((eachL ([(B.getD 1 0),(B.getD 2 0),(B.getD 3 0),(B.getD 0 0)])).getD 0 0) (IntKind.u8.wrap (1*2 ^ (min (Int.toNat ((i / 8 - 1:Nat):Int)) 8))))))])))
theorem aC0_0 (B:List Int) (i:Nat):evC (yty.en tabB2) aC0_h (cAt [] (bdy Try.f58)) ⟨aC0_a B i,[],True,[some (.int .i64 ((i%8:Nat):Int)),some (.bool true),some (.int .u8 (B.getD 1 0)),some (.int .u8 (B.getD 2 0)),some (.int .u8 (B.getD 3 0)),some (.int .u8 (B.getD 0 0)),some (.int .u8 ((eachL ([(B.getD 1 0),(B.getD 2 0),(B.getD 3 0),(B.getD 0 0)])).getD 0 0)),some (.int .i64 ((i / 8:Nat):Int)),some (.int .i64 ((i / 8 - 1:Nat):Int)),none,none,some (.agg (wA .u8 4 (lset 4 (eachL ([(B.getD 1 0),(B.getD 2 0),(B.getD 3 0),(B.getD 0 0)])) 0 (bits .xor .u8 ((eachL ([(B.getD 1 0),(B.getD 2 0),(B.getD 3 0),(B.getD 0 0)])).getD 0 0) (IntKind.u8.wrap (1*2 ^ (min (Int.toNat ((i / 8 - 1:Nat):Int)) 8)))))))]⟩=some (.ret,⟨aC0_b B i,[((wA .u8 4 (lset 4 (eachL ([(B.getD 1 0),(B.getD 2 0),(B.getD 3 0),(B.getD 0 0)])) 0 (bits .xor .u8 ((eachL ([(B.getD 1 0),(B.getD 2 0),(B.getD 3 0),(B.getD 0 0)])).getD 0 0) (IntKind.u8.wrap (1*2 ^ (min (Int.toNat ((i / 8 - 1:Nat):Int)) 8)))))),(70,(0,0))),((wA .u8 4 (lset 4 (eachL ([(B.getD 1 0),(B.getD 2 0),(B.getD 3 0),(B.getD 0 0)])) 0 (bits .xor .u8 ((eachL ([(B.getD 1 0),(B.getD 2 0),(B.getD 3 0),(B.getD 0 0)])).getD 0 0) (IntKind.u8.wrap (1*2 ^ (min (Int.toNat ((i / 8 - 1:Nat):Int)) 8)))))),(70,(0,0)))],((((((((((((((((((((((((((True∧True)∧(((8:Int)≠0)∧(Int.tmod ((i:Nat):Int) 8)=((i%8:Nat):Int)))∧(True∧(decide (((i%8:Nat):Int)=0))=true))∧True)∧((0:Int)≤1∧(1:Int)<((4:Nat):Int)))∧(((wA .u8 4 B)[1]? =some (.int .u8 (B.getD 1 0)))∧(B.getD 1 0)=(B.getD 1 0)))∧((0:Int)≤2∧(2:Int)<((4:Nat):Int)))∧(((wA .u8 4 B)[2]? =some (.int .u8 (B.getD 2 0)))∧(B.getD 2 0)=(B.getD 2 0)))∧((0:Int)≤3∧(3:Int)<((4:Nat):Int)))∧(((wA .u8 4 B)[3]? =some (.int .u8 (B.getD 3 0)))∧(B.getD 3 0)=(B.getD 3 0)))∧((0:Int)≤0∧(0:Int)<((4:Nat):Int)))∧(((wA .u8 4 B)[0]? =some (.int .u8 (B.getD 0 0)))∧(B.getD 0 0)=(B.getD 0 0)))∧True)∧((wA .u8 4 [(B.getD 1 0),(B.getD 2 0),(B.getD 3 0),(B.getD 0 0)])=wA .u8 4 (dL8 (wA .u8 4 [(B.getD 1 0),(B.getD 2 0),(B.getD 3 0),(B.getD 0 0)]))∧By (dL8 (wA .u8 4 [(B.getD 1 0),(B.getD 2 0),(B.getD 3 0),(B.getD 0 0)]))))∧((wA .u8 4 (eachL ([(B.getD 1 0),(B.getD 2 0),(B.getD 3 0),(B.getD 0 0)]))).all (fun v=>v.oneCell')=true))∧((0:Int)≤0∧(0:Int)<((4:Nat):Int)))∧(((wA .u8 4 (eachL ([(B.getD 1 0),(B.getD 2 0),(B.getD 3 0),(B.getD 0 0)])))[0]? =some (.int .u8 ((eachL ([(B.getD 1 0),(B.getD 2 0),(B.getD 3 0),(B.getD 0 0)])).getD 0 0)))∧((eachL ([(B.getD 1 0),(B.getD 2 0),(B.getD 3 0),(B.getD 0 0)])).getD 0 0)=((eachL ([(B.getD 1 0),(B.getD 2 0),(B.getD 3 0),(B.getD 0 0)])).getD 0 0)))∧True)∧(((8:Int)≠0)∧(IntKind.i64.wrap (Int.tdiv ((i:Nat):Int) 8))=((i / 8:Nat):Int)))∧(True∧(IntKind.i64.wrap (((i / 8:Nat):Int) - 1))=((i / 8 - 1:Nat):Int)))∧(0≤((i / 8 - 1:Nat):Int)))∧True)∧((0:Int)≤0∧(0:Int)<((4:Nat):Int)))∧(0<(wA .u8 4 (eachL ([(B.getD 1 0),(B.getD 2 0),(B.getD 3 0),(B.getD 0 0)]))).size∧(wA .u8 4 (eachL ([(B.getD 1 0),(B.getD 2 0),(B.getD 3 0),(B.getD 0 0)]))).setIfInBounds (0) (.int .u8 (bits .xor .u8 ((eachL ([(B.getD 1 0),(B.getD 2 0),(B.getD 3 0),(B.getD 0 0)])).getD 0 0) (IntKind.u8.wrap (1*2 ^ (min (Int.toNat ((i / 8 - 1:Nat):Int)) 8)))))=(wA .u8 4 (lset 4 (eachL ([(B.getD 1 0),(B.getD 2 0),(B.getD 3 0),(B.getD 0 0)])) 0 (bits .xor .u8 ((eachL ([(B.getD 1 0),(B.getD 2 0),(B.getD 3 0),(B.getD 0 0)])).getD 0 0) (IntKind.u8.wrap (1*2 ^ (min (Int.toNat ((i / 8 - 1:Nat):Int)) 8))))))))∧True)∧((wA .u8 4 (lset 4 (eachL ([(B.getD 1 0),(B.getD 2 0),(B.getD 3 0),(B.getD 0 0)])) 0 (bits .xor .u8 ((eachL ([(B.getD 1 0),(B.getD 2 0),(B.getD 3 0),(B.getD 0 0)])).getD 0 0) (IntKind.u8.wrap (1*2 ^ (min (Int.toNat ((i / 8 - 1:Nat):Int)) 8)))))).all (fun v=>v.oneCell')=true)),[]⟩):=by kernel_rfl
theorem aC0_c (B:List Int) (i:Nat) (hB:By B) (h8:8≤i) (h60:i<60) (hm:i%8=0):Pure Try.prog 58 #[.agg (wA .u8 4 B),.int .i64 ((i:Nat):Int)] (.agg (wA .u8 4 (rcL (eachL (rotL B)) i))):=by
  have h0:(decide (((i%8:Nat):Int)=0))=true:=(decide_eq_true (by omega))
  refine pure_runs (E:=(yty.en tabB2)) Try.func58 (c:=bdy Try.f58) (by kernel_rfl) (args:= [.agg (wA .u8 4 B),.int .i64 ((i:Nat):Int)]) (by kernel_rfl) (K:=fun e s=>e= .ret∧resS (yty.en tabB2) s Try.f58.results.toList=some [.agg (wA .u8 4 (rcL (eachL (rotL B)) i))]) ?_ (fun e s h=>⟨h.1,_,h.2,rfl⟩)
  refine(runs_ev mixed _ (aC0_0 B i) ⟨⟨⟨⟨⟨⟨⟨⟨⟨⟨⟨⟨⟨⟨⟨⟨⟨⟨⟨⟨⟨⟨⟨⟨⟨⟨trivial,trivial⟩,⟨(by decide),(by exact tmodN i 8)⟩⟩,⟨trivial,h0⟩⟩,trivial⟩,⟨by decide,by decide⟩⟩,⟨(wA_get (by omega) (by omega)),rfl⟩⟩,⟨by decide,by decide⟩⟩,⟨(wA_get (by omega) (by omega)),rfl⟩⟩,⟨by decide,by decide⟩⟩,⟨(wA_get (by omega) (by omega)),rfl⟩⟩,⟨by decide,by decide⟩⟩,⟨(wA_get (by omega) (by omega)),rfl⟩⟩,trivial⟩,dq (rotL_by hB)⟩,wA_one _ _ _⟩,⟨by decide,by decide⟩⟩,⟨(wA_get (by omega) (by omega)),rfl⟩⟩,trivial⟩,⟨(by decide),(by exact tdivN_i64 i 8 (by omega))⟩⟩,⟨trivial,(by rw[IntKind.wrap_i64];omega)⟩⟩,(by omega)⟩,trivial⟩,⟨by decide,by decide⟩⟩,⟨(by rw[wA_size];omega),wA_putE (by omega) (by omega)⟩⟩,trivial⟩,wA_one _ _ _⟩).mono ?_
  rintro e s ⟨rfl,rfl⟩
  exact⟨rfl,by kernel_rfl⟩
def aC1_h (i:Nat):Hn:=if i=4 then⟨8,[],[],[],[]⟩ else⟨0,[],[],[],[]⟩
def aC1_a (B:List Int) (i:Nat):List Value:=([.agg (wA .u8 4 B),.int .i64 ((i:Nat):Int)] ++ (JU 30))
def aC1_b (B:List Int) (i:Nat):List Value:=([.agg (wA .u8 4 B),.int .i64 ((i:Nat):Int),.pointer (some ⟨0,0,none⟩),undef,.pointer (some ⟨1,0,none⟩),.int .i64 ((i:Nat):Int),.int .i64 ((i%8:Nat):Int),.bool false,.bool false] ++ (JU 18 ++ ([.bool true,.bool true,.agg (wA .u8 4 B),.agg (wA .u8 4 (eachL B)),.agg (wA .u8 4 (eachL B))])))
theorem aC1_0 (B:List Int) (i:Nat):evC (yty.en tabB2) aC1_h (cAt [] (bdy Try.f58)) ⟨aC1_a B i,[],True,[some (.int .i64 ((i%8:Nat):Int)),some (.bool false),some (.bool true)]⟩=some (.ret,⟨aC1_b B i,[((wA .u8 4 (eachL B)),(70,(0,0))),((wA .u8 4 (eachL B)),(70,(0,0)))],(((((((((((True∧True)∧(((8:Int)≠0)∧(Int.tmod ((i:Nat):Int) 8)=((i%8:Nat):Int)))∧(True∧(decide (((i%8:Nat):Int)=0))=false))∧True)∧(True∧(decide (((i%8:Nat):Int)=4))=true))∧True)∧True)∧((wA .u8 4 B)=wA .u8 4 (dL8 (wA .u8 4 B))∧By (dL8 (wA .u8 4 B))))∧((wA .u8 4 (eachL B)).all (fun v=>v.oneCell')=true))∧True)∧((wA .u8 4 (eachL B)).all (fun v=>v.oneCell')=true)),[]⟩):=by kernel_rfl
theorem aC1_c (B:List Int) (i:Nat) (hB:By B) (h8:8≤i) (h60:i<60) (hm:i%8=4):Pure Try.prog 58 #[.agg (wA .u8 4 B),.int .i64 ((i:Nat):Int)] (.agg (wA .u8 4 (eachL B))):=by
  have h0:(decide (((i%8:Nat):Int)=0))=false:=(decide_eq_false (by omega))
  have h1:(decide (((i%8:Nat):Int)=4))=true:=(decide_eq_true (by omega))
  refine pure_runs (E:=(yty.en tabB2)) Try.func58 (c:=bdy Try.f58) (by kernel_rfl) (args:= [.agg (wA .u8 4 B),.int .i64 ((i:Nat):Int)]) (by kernel_rfl) (K:=fun e s=>e= .ret∧resS (yty.en tabB2) s Try.f58.results.toList=some [.agg (wA .u8 4 (eachL B))]) ?_ (fun e s h=>⟨h.1,_,h.2,rfl⟩)
  refine(runs_ev mixed _ (aC1_0 B i) ⟨⟨⟨⟨⟨⟨⟨⟨⟨⟨⟨trivial,trivial⟩,⟨(by decide),(by exact tmodN i 8)⟩⟩,⟨trivial,h0⟩⟩,trivial⟩,⟨trivial,h1⟩⟩,trivial⟩,trivial⟩,dq hB⟩,wA_one _ _ _⟩,trivial⟩,wA_one _ _ _⟩).mono ?_
  rintro e s ⟨rfl,rfl⟩
  exact⟨rfl,by kernel_rfl⟩
def aC2_h (i:Nat):Hn:=if i=4 then⟨8,[],[],[],[]⟩ else⟨0,[],[],[],[]⟩
def aC2_a (B:List Int) (i:Nat):List Value:=([.agg (wA .u8 4 B),.int .i64 ((i:Nat):Int)] ++ (JU 30))
def aC2_b (B:List Int) (i:Nat):List Value:=([.agg (wA .u8 4 B),.int .i64 ((i:Nat):Int),.pointer (some ⟨0,0,none⟩),undef,.pointer (some ⟨1,0,none⟩),.int .i64 ((i:Nat):Int),.int .i64 ((i%8:Nat):Int),.bool false,.bool false] ++ (JU 18 ++ ([.bool false,.bool false,undef,undef,.agg (wA .u8 4 B)])))
theorem aC2_0 (B:List Int) (i:Nat):evC (yty.en tabB2) aC2_h (cAt [] (bdy Try.f58)) ⟨aC2_a B i,[],True,[some (.int .i64 ((i%8:Nat):Int)),some (.bool false),some (.bool false)]⟩=some (.ret,⟨aC2_b B i,[((wA .u8 4 B),(70,(0,0))),((wA .u8 4 B),(70,(0,0)))],((((((((True∧True)∧(((8:Int)≠0)∧(Int.tmod ((i:Nat):Int) 8)=((i%8:Nat):Int)))∧(True∧(decide (((i%8:Nat):Int)=0))=false))∧True)∧(True∧(decide (((i%8:Nat):Int)=4))=false))∧True)∧True)∧((wA .u8 4 B).all (fun v=>v.oneCell')=true)),[]⟩):=by kernel_rfl
theorem aC2_c (B:List Int) (i:Nat) (hB:By B) (h8:8≤i) (h60:i<60) (hm:¬ i%8=0) (hm2:¬ i%8=4):Pure Try.prog 58 #[.agg (wA .u8 4 B),.int .i64 ((i:Nat):Int)] (.agg (wA .u8 4 B)):=by
  have h0:(decide (((i%8:Nat):Int)=0))=false:=(decide_eq_false (by omega))
  have h1:(decide (((i%8:Nat):Int)=4))=false:=(decide_eq_false (by omega))
  refine pure_runs (E:=(yty.en tabB2)) Try.func58 (c:=bdy Try.f58) (by kernel_rfl) (args:= [.agg (wA .u8 4 B),.int .i64 ((i:Nat):Int)]) (by kernel_rfl) (K:=fun e s=>e= .ret∧resS (yty.en tabB2) s Try.f58.results.toList=some [.agg (wA .u8 4 B)]) ?_ (fun e s h=>⟨h.1,_,h.2,rfl⟩)
  refine(runs_ev mixed _ (aC2_0 B i) ⟨⟨⟨⟨⟨⟨⟨⟨trivial,trivial⟩,⟨(by decide),(by exact tmodN i 8)⟩⟩,⟨trivial,h0⟩⟩,trivial⟩,⟨trivial,h1⟩⟩,trivial⟩,trivial⟩,wA_one _ _ _⟩).mono ?_
  rintro e s ⟨rfl,rfl⟩
  exact⟨rfl,by kernel_rfl⟩
theorem Chg_c (B:List Int) (i:Nat) (hB:By B) (h8:8≤i) (h60:i<60):Pure Try.prog 58 #[.agg (wA .u8 4 B),.int .i64 ((i:Nat):Int)] (.agg (wA .u8 4 (chgL B i))):=by
  unfold chgL
  by_cases h0:i%8=0
  · rw[if_pos h0];exact aC0_c B i hB h8 h60 h0
  · rw [if_neg h0]
    by_cases h4:i%8=4
    · rw[if_pos h4];exact aC1_c B i hB h8 h60 h4
    · rw[if_neg h4];exact aC2_c B i hB h8 h60 h0 h4
def pch:Entry Try.prog:=entCh Try.func58 (by kernel_rfl) (by kernel_rfl) (fun B i=> .agg (wA .u8 4 (chgL B i))) Chg_c
def tabC1:List (Entry Try.prog):=pmx :: pad :: pch :: tabB2
def w4 (Y:List Int) (m:Nat):List Int:= [Y.getD (4*m) 0,Y.getD (4*m+1) 0,Y.getD (4*m+2) 0,Y.getD (4*m+3) 0]
theorem w4_by {Y:List Int} (h:By Y) (m:Nat):By (w4 Y m):=by_cons (h _) (by_cons (h _) (by_cons (h _) (by_cons (h _) by_nil)))
theorem ld4 {Y:List Int} {m p:Nat} (hm:m<60) (hp:p=4*m):(wA .u8 240 Y).extract p (p+4)=wA .u8 4 (w4 Y m)∧4=(wA .u8 4 (w4 Y m)).size:=by
  subst hp
  refine⟨wA_ext (by rw[Array.size_extract,wA_size];omega) (fun i hi=> ?_),by rw[wA_size]⟩
  rw[Array.getElem?_extract_of_lt (by rw[wA_size];omega),← Array.getElem?_eq_getElem,wA_at (by omega)]
  match i,hi with
  |0,_=>rfl
  |1,_=>rfl
  |2,_=>rfl
  |3,_=>rfl
theorem st4 {Y V : List Int} {m p : Nat} (hm : m < 60) (hp : p = 4 * m) (hY : Y.length = 4 * m) : p + (wA .u8 4 V).size ≤ (wA .u8 240 Y).size ∧ Calm.splice (wA .u8 240 Y) p (wA .u8 4 V) = wA .u8 240 (Y ++ V.take 4) ∧ (wA .u8 4 V).all (fun v => v.oneCell') = true := by
  subst hp
  refine⟨by rw[wA_size,wA_size];omega,wA_ext ?_ (fun i hi=> ?_),wA_one _ _ _⟩
  · unfold Calm.splice
    simp[wA_size];omega
  · have hl : (wA .u8 240 Y).toList.length = 240 := by rw [Array.length_toList, wA_size]
    have hv:(wA .u8 4 V).toList.length=4:=by rw[Array.length_toList,wA_size]
    unfold Calm.splice
    rw[List.getElem?_toArray,List.append_assoc,List.getElem?_append,List.length_take,hl,getD_app,hY]
    by_cases h:i<4*m
    · rw[if_pos (by omega),List.getElem?_take_of_lt h,Array.getElem?_toList,wA_at hi,if_pos h]
    · rw [if_neg (by omega), List.getElem?_append, hv, if_neg h, show min (4 * m) 240 = 4 * m by omega]
      by_cases h2:i - 4*m<4
      · rw [if_pos h2, Array.getElem?_toList, wA_at h2]
        congr 2
        rw[List.getD_eq_getElem?_getD,List.getD_eq_getElem?_getD,List.getElem?_take_of_lt h2]
      · rw [if_neg h2, List.getElem?_drop, Array.getElem?_toList, wA_size, wA_at (by omega)]
        congr 2
        rw[List.getD_eq_getElem?_getD,List.getElem?_eq_none (by omega),List.getD_eq_getElem?_getD,List.getElem?_eq_none (by rw[List.length_take];omega)]
def wd0 (K:List Int) (n:Nat):List Int:=(List.range (4*n)).map fun i=>K.getD i 0
def wdI (K:List Int):Nat→List Int
  |0=>wd0 K 8
  |n+1=>wdI K n ++ (sumL (w4 (wdI K n) n) (chgL (w4 (wdI K n) (n+7)) (n+8))).take 4
def wdF (K:List Int):List Int:=wdI K 52
theorem wdI_w (K:List Int):∀ n,wdI (dL8 (wA .u8 32 K)) n=wdI K n
  | 0 => by
    show wd0 (dL8 (wA .u8 32 K)) 8=wd0 K 8
    unfold wd0
    refine List.map_congr_left fun i hi=> ?_
    have hi:i<32:=by simpa using hi
    rw[dL8_wA,if_pos hi]
  |n+1=>by rw[wdI,wdI,wdI_w K n]
theorem wdF_w (K:List Int):wdF (dL8 (wA .u8 32 K))=wdF K:=wdI_w K 52
theorem by_app {L M:List Int} (h1:By L) (h2:By M):By (L ++ M):=fun i=>by
  rw[getD_app]
  split
  · exact h1 i
  · exact h2 _
theorem by_take {L:List Int} (h:By L) (n:Nat):By (L.take n):=fun i=>by
  rw[List.getD_eq_getElem?_getD]
  by_cases hi:i<n
  · rw[List.getElem?_take_of_lt hi,← List.getD_eq_getElem?_getD];exact h i
  · rw[List.getElem?_eq_none (by rw[List.length_take];omega)];simp
theorem wd0_step (K:List Int) (k:Nat):wd0 K k ++ ([K.getD (4*k) 0,K.getD (4*k+1) 0,K.getD (4*k+2) 0,K.getD (4*k+3) 0]).take 4=wd0 K (k+1):=by
  unfold wd0
  rw[show 4*(k+1)=4*k+1+1+1+1 by omega,List.range_succ,List.range_succ,List.range_succ,List.range_succ]
  simp
def aWdA_h (i:Nat):Hn:=if i=5 then⟨22,[],[],[],[]⟩ else if i=10 then⟨13,[],[],[],[]⟩ else⟨0,[],[],[],[]⟩
abbrev aWdA_R (w:List Nat) (S:FS) (e:Exit) (K:FS→Prop):Prop:=Rn Try.prog (cAt w (bdy Try.f49)) S e K 0
structure aWdA_c (K:List Int):Prop where
  hK:By K
variable {K:List Int} {k_1:aWdA_c K}
abbrev aWdA (_:aWdA_c K):FS:=⟨true,50,[(0,.agg (wA .u8 32 K))],[]⟩
abbrev aWdB (_:aWdA_c K):FS:=⟨false,50,[(1,.pointer (some ⟨0,0,none⟩)),(2,.pointer (some ⟨1,0,none⟩))],[((wA .u8 32 K),(27,(0,0))),((wA .u8 240 []),(71,(0,0)))]⟩
abbrev aWdC (_:aWdA_c K):FS:=⟨false,50,[(1,.pointer (some ⟨0,0,none⟩)),(2,.pointer (some ⟨1,0,none⟩)),(3,.pointer (some ⟨2,0,none⟩))],[((wA .u8 32 K),(27,(0,0))),((wA .u8 240 []),(71,(0,0))),((wA .u8 240 []),(71,(0,0)))]⟩
theorem aWd0:aWdA_R [0] (aWdA k_1) .normal (fun z_=>z_=aWdB k_1):=by
  exact rn_ev (yty.en tabC1) aWdA_h mixed _ none [] [] 0 (fun j M=>by kernel_rfl) A0 rfl
theorem aWd1:aWdA_R [1,0] (aWdB k_1) .normal (fun z_=>z_=aWdC k_1):=by
  exact rn_ev (yty.en tabC1) aWdA_h mixed _ none [] [] 0 (fun j M=>by kernel_rfl) A0 rfl
structure aWdD_c (_:aWdA_c K) (Y:List Int) (k:Nat):Prop where
  hY:Y=wd0 K k
  hl:Y.length=4*k
  hk:k≤8
variable {Y:List Int} {k:Nat} {k_2:aWdD_c k_1 Y k}
abbrev aWdD (_:aWdD_c k_1 Y k):FS:=⟨false,50,[(1,.pointer (some ⟨0,0,none⟩)),(2,.pointer (some ⟨1,0,none⟩)),(3,.pointer (some ⟨2,0,none⟩)),(6,.int .i64 ((k:Nat):Int))],[((wA .u8 32 K),(27,(0,0))),((wA .u8 240 []),(71,(0,0))),((wA .u8 240 Y),(71,(0,0)))]⟩
structure aWdE_c (_:aWdA_c K) (Y:List Int) (k:Nat):Prop where
  hY:Y=wd0 K k
  hl:Y.length=4*k
  hk:k=8
variable {k_3:aWdE_c k_1 Y k}
abbrev aWdE (_:aWdE_c k_1 Y k):FS:=⟨false,50,[(1,.pointer (some ⟨0,0,none⟩)),(2,.pointer (some ⟨1,0,none⟩)),(3,.pointer (some ⟨2,0,none⟩))],[((wA .u8 32 K),(27,(0,0))),((wA .u8 240 []),(71,(0,0))),((wA .u8 240 Y),(71,(0,0)))]⟩
theorem aWd2:aWdA_R [1,1,0,0] (aWdC k_1) .normal (fun z_=>∃(k_2:aWdD_c k_1 ([]:List Int) 0),z_=aWdD k_2):=by
  have⟨hK⟩:=id k_1
  exact rn_ev (yty.en tabC1) aWdA_h mixed _ none [] [] 1 (fun j M=>by kernel_rfl) A0 ⟨⟨rfl,rfl,by omega⟩,rfl⟩
theorem aWd3 (hlt:k<8):aWdA_R [1,1,0,1,0,0] (aWdD k_2) .normal (fun z_=>∃(k_2:aWdD_c k_1 (Y ++ ([(K.getD (4*k) 0),(K.getD (4*k+1) 0),(K.getD (4*k+2) 0),(K.getD (4*k+3) 0)]).take 4) (k+1)),z_=aWdD k_2):=by
  have⟨hK⟩:=id k_1
  have⟨hY,hl,hk⟩:=id k_2
  exact rn_ev (yty.en tabC1) aWdA_h mixed _ none [some (.bool true),some (.int .i64 ((4*k:Nat):Int)),some (.int .u8 (K.getD (4*k) 0)),some (.int .i64 ((4*k:Nat):Int)),some (.int .i64 ((4*k+1:Nat):Int)),some (.int .u8 (K.getD (4*k+1) 0)),some (.int .i64 ((4*k:Nat):Int)),some (.int .i64 ((4*k+2:Nat):Int)),some (.int .u8 (K.getD (4*k+2) 0)),some (.int .i64 ((4*k:Nat):Int)),some (.int .i64 ((4*k+3:Nat):Int)),some (.int .u8 (K.getD (4*k+3) 0)),some (.agg (wA .u8 240 (Y ++ ([(K.getD (4*k) 0),(K.getD (4*k+1) 0),(K.getD (4*k+2) 0),(K.getD (4*k+3) 0)]).take 4))),some (.int .i64 ((k+1:Nat):Int))] [(1,(decide (((k:Nat):Int)<8))=true),(9,(IntKind.i64.wrap (4*((k:Nat):Int)))=((4*k:Nat):Int)),(0,(0≤((4*k:Nat):Int)∧((4*k:Nat):Int)<((32:Nat):Int))),(0,(((wA .u8 32 K)[(0+Int.toNat ((4*k:Nat):Int)*1)]? =some (.int .u8 (K.getD (4*k) 0)))∧(K.getD (4*k) 0)=(K.getD (4*k) 0))),(3,(IntKind.i64.wrap (4*((k:Nat):Int)))=((4*k:Nat):Int)),(1,(IntKind.i64.wrap (((4*k:Nat):Int)+1))=((4*k+1:Nat):Int)),(0,(0≤((4*k+1:Nat):Int)∧((4*k+1:Nat):Int)<((32:Nat):Int))),(0,(((wA .u8 32 K)[(0+Int.toNat ((4*k+1:Nat):Int)*1)]? =some (.int .u8 (K.getD (4*k+1) 0)))∧(K.getD (4*k+1) 0)=(K.getD (4*k+1) 0))),(3,(IntKind.i64.wrap (4*((k:Nat):Int)))=((4*k:Nat):Int)),(1,(IntKind.i64.wrap (((4*k:Nat):Int)+2))=((4*k+2:Nat):Int)),(0,(0≤((4*k+2:Nat):Int)∧((4*k+2:Nat):Int)<((32:Nat):Int))),(0,(((wA .u8 32 K)[(0+Int.toNat ((4*k+2:Nat):Int)*1)]? =some (.int .u8 (K.getD (4*k+2) 0)))∧(K.getD (4*k+2) 0)=(K.getD (4*k+2) 0))),(3,(IntKind.i64.wrap (4*((k:Nat):Int)))=((4*k:Nat):Int)),(1,(IntKind.i64.wrap (((4*k:Nat):Int)+3))=((4*k+3:Nat):Int)),(0,(0≤((4*k+3:Nat):Int)∧((4*k+3:Nat):Int)<((32:Nat):Int))),(0,(((wA .u8 32 K)[(0+Int.toNat ((4*k+3:Nat):Int)*1)]? =some (.int .u8 (K.getD (4*k+3) 0)))∧(K.getD (4*k+3) 0)=(K.getD (4*k+3) 0))),(2,(0≤((k:Nat):Int)∧((k:Nat):Int)<((60:Nat):Int))),(0,((0+Int.toNat ((k:Nat):Int)*4)+(wA .u8 4 [(K.getD (4*k) 0),(K.getD (4*k+1) 0),(K.getD (4*k+2) 0),(K.getD (4*k+3) 0)]).size≤(wA .u8 240 Y).size∧Calm.splice (wA .u8 240 Y) (0+Int.toNat ((k:Nat):Int)*4) (wA .u8 4 [(K.getD (4*k) 0),(K.getD (4*k+1) 0),(K.getD (4*k+2) 0),(K.getD (4*k+3) 0)])=(wA .u8 240 (Y ++ ([(K.getD (4*k) 0),(K.getD (4*k+1) 0),(K.getD (4*k+2) 0),(K.getD (4*k+3) 0)]).take 4))∧(wA .u8 4 [(K.getD (4*k) 0),(K.getD (4*k+1) 0),(K.getD (4*k+2) 0),(K.getD (4*k+3) 0)]).all (fun v=>v.oneCell')=true)),(1,(IntKind.i64.wrap (((k:Nat):Int)+1))=((k+1:Nat):Int))] 1 (fun j M=>by kernel_rfl) (A1 (decide_eq_true (by omega)) (A1 (wi64 (by omega)) (A1 (by(try simp only[Int.toNat_natCast,wA_size]);omega) (A1 ⟨(wA_get (by omega) (by omega)),rfl⟩ (A1 (wi64 (by omega)) (A1 (wi64 (by omega)) (A1 (by(try simp only[Int.toNat_natCast,wA_size]);omega) (A1 ⟨(wA_get (by omega) (by omega)),rfl⟩ (A1 (wi64 (by omega)) (A1 (wi64 (by omega)) (A1 (by(try simp only[Int.toNat_natCast,wA_size]);omega) (A1 ⟨(wA_get (by omega) (by omega)),rfl⟩ (A1 (wi64 (by omega)) (A1 (wi64 (by omega)) (A1 (by(try simp only[Int.toNat_natCast,wA_size]);omega) (A1 ⟨(wA_get (by omega) (by omega)),rfl⟩ (A1 (by(try simp only[Int.toNat_natCast,wA_size]);omega) (A1 (st4 (m:=k) (by omega) (by omega) (by omega)) (A1 (wi64 (by omega)) A0))))))))))))))))))) ⟨⟨by rw[hY];exact wd0_step K k,by simp;omega,by omega⟩,rfl⟩
theorem aWd4 (hge:¬ k<8):aWdA_R [1,1,0,1,0,0] (aWdD k_2) (.exit 0) (fun z_=>∃(k_3:aWdE_c k_1 Y k),z_=aWdE k_3):=by
  have⟨hK⟩:=id k_1
  have⟨hY,hl,hk⟩:=id k_2
  exact rn_ev (yty.en tabC1) aWdA_h mixed _ none [some (.bool false)] [(1,(decide (((k:Nat):Int)<8))=false)] 0 (fun j M=>by kernel_rfl) (A1 (decide_eq_false (by omega)) A0) ⟨⟨hY,hl,by omega⟩,rfl⟩
theorem aWd5:aWdA_R [1,1,0,1] (aWdD k_2) .normal (fun z_=>∃(Y:List Int) (k:Nat) (k_3:aWdE_c k_1 Y k),z_=aWdE k_3):=by
  refine rn_loop (k:=0) (w:= [1,1,0,1]) (by kernel_rfl) (fun n_ z_=>∃(Y:List Int) (k:Nat) (k_2:aWdD_c k_1 Y k),n_=8 - k∧z_=aWdD k_2) _ ⟨_,_,k_2,rfl,rfl⟩ ?_
  rintro n_ _ ⟨Y,k,k_2,hn_,rfl⟩
  have⟨hK⟩:=k_1
  have⟨hY,hl,hk⟩:=k_2
  by_cases hlt:k<8
  · exact(aWd3 hlt).x fun _ ⟨k_2,e_⟩=> .inl ⟨rfl,8 - (k+1),by omega,⟨_,_,k_2,rfl,e_⟩⟩
  · exact(aWd4 hlt).x fun _ ⟨k_3,e_⟩=> .inr ⟨rfl,⟨Y,k,k_3,e_⟩⟩
theorem aWd6:aWdA_R [1,1,0] (aWdC k_1) .normal (fun z_=>∃(Y1:List Int) (k1:Nat) (k_3:aWdE_c k_1 Y1 k1),z_=aWdE k_3):=by
  refine rn_seq (w:= [1,1,0]) (by kernel_rfl) aWd2 ?_
  rintro _ ⟨k_2,rfl⟩
  exact aWd5
structure aWdF_c (_:aWdA_c K) (Y:List Int) (n i:Nat):Prop where
  hY:Y=wdI K n
  hYb:By Y
  hl:Y.length=4*(n+8)
  hi:i=n+8
  hn:n≤52
variable {n i:Nat} {k_4:aWdF_c k_1 Y n i}
abbrev aWdF (_:aWdF_c k_1 Y n i):FS:=⟨false,50,[(1,.pointer (some ⟨0,0,none⟩)),(2,.pointer (some ⟨1,0,none⟩)),(3,.pointer (some ⟨2,0,none⟩)),(5,.int .i64 ((i:Nat):Int))],[((wA .u8 32 K),(27,(0,0))),((wA .u8 240 []),(71,(0,0))),((wA .u8 240 Y),(71,(0,0)))]⟩
structure aWdG_c (_:aWdA_c K) (Y:List Int) (n i:Nat):Prop where
  hY:Y=wdI K n
  hYb:By Y
  hl:Y.length=4*(n+8)
  hi:i=n+8
  hn:n=52
variable {k_5:aWdG_c k_1 Y n i}
abbrev aWdG (_:aWdG_c k_1 Y n i):FS:=⟨false,50,[(1,.pointer (some ⟨0,0,none⟩)),(2,.pointer (some ⟨1,0,none⟩)),(3,.pointer (some ⟨2,0,none⟩))],[((wA .u8 32 K),(27,(0,0))),((wA .u8 240 []),(71,(0,0))),((wA .u8 240 Y),(71,(0,0)))]⟩
theorem aWd7:aWdA_R [1,1,1,0,0] (aWdE k_3) .normal (fun z_=>∃(k_4:aWdF_c k_1 Y 0 8),z_=aWdF k_4):=by
  have⟨hK⟩:=id k_1
  have⟨hY,hl,hk⟩:=id k_3
  exact rn_ev (yty.en tabC1) aWdA_h mixed _ none [] [] 1 (fun j M=>by kernel_rfl) A0 ⟨⟨by rw[hY,hk];rfl,by rw[hY];exact by_ofFn fun _ _=>hK _,by omega,rfl,by omega⟩,rfl⟩
theorem aWd8 (hlt:n<52):aWdA_R [1,1,1,0,1,0,0] (aWdF k_4) .normal (fun z_=>∃(k_4:aWdF_c k_1 (Y ++ (sumL (w4 Y (i - 8)) (chgL (w4 Y (i - 1)) i)).take 4) (n+1) (i+1)),z_=aWdF k_4):=by
  have⟨hK⟩:=id k_1
  have⟨hY,hYb,hl,hi,hn⟩:=id k_4
  exact rn_ev (yty.en tabC1) aWdA_h mixed _ none [some (.bool true),some (.int .i64 ((i - 8:Nat):Int)),some (.tuple #[.agg (wA .u8 4 (w4 Y (i - 8)))]),some (.int .i64 ((i - 1:Nat):Int)),some (.tuple #[.agg (wA .u8 4 (w4 Y (i - 1)))]),some (.agg (wA .u8 240 (Y ++ (sumL (w4 Y (i - 8)) (chgL (w4 Y (i - 1)) i)).take 4))),some (.int .i64 ((i+1:Nat):Int))] [(3,(decide (((i:Nat):Int)<60))=true),(5,(IntKind.i64.wrap (((i:Nat):Int) - 8))=((i - 8:Nat):Int)),(0,(0≤((i - 8:Nat):Int)∧((i - 8:Nat):Int)<((60:Nat):Int))),(0,((wA .u8 240 Y).extract (0+Int.toNat ((i - 8:Nat):Int)*4) ((0+Int.toNat ((i - 8:Nat):Int)*4)+4)=(wA .u8 4 (w4 Y (i - 8)))∧4=(wA .u8 4 (w4 Y (i - 8))).size)),(3,(IntKind.i64.wrap (((i:Nat):Int) - 1))=((i - 1:Nat):Int)),(0,(0≤((i - 1:Nat):Int)∧((i - 1:Nat):Int)<((60:Nat):Int))),(0,((wA .u8 240 Y).extract (0+Int.toNat ((i - 1:Nat):Int)*4) ((0+Int.toNat ((i - 1:Nat):Int)*4)+4)=(wA .u8 4 (w4 Y (i - 1)))∧4=(wA .u8 4 (w4 Y (i - 1))).size)),(2,(((wA .u8 4 (w4 Y (i - 1)))=wA .u8 4 (dL8 (wA .u8 4 (w4 Y (i - 1))))∧By (dL8 (wA .u8 4 (w4 Y (i - 1)))))∧IntKind.i64= .i64∧8≤((i:Nat):Int)∧((i:Nat):Int)<60)),(0,(((wA .u8 4 (w4 Y (i - 8)))=wA .u8 4 (dL8 (wA .u8 4 (w4 Y (i - 8))))∧By (dL8 (wA .u8 4 (w4 Y (i - 8)))))∧((wA .u8 4 (chgL (w4 Y (i - 1)) i))=wA .u8 4 (dL8 (wA .u8 4 (chgL (w4 Y (i - 1)) i)))∧By (dL8 (wA .u8 4 (chgL (w4 Y (i - 1)) i)))))),(0,(0≤((i:Nat):Int)∧((i:Nat):Int)<((60:Nat):Int))),(0,((0+Int.toNat ((i:Nat):Int)*4)+(wA .u8 4 (sumL (w4 Y (i - 8)) (chgL (w4 Y (i - 1)) i))).size≤(wA .u8 240 Y).size∧Calm.splice (wA .u8 240 Y) (0+Int.toNat ((i:Nat):Int)*4) (wA .u8 4 (sumL (w4 Y (i - 8)) (chgL (w4 Y (i - 1)) i)))=(wA .u8 240 (Y ++ (sumL (w4 Y (i - 8)) (chgL (w4 Y (i - 1)) i)).take 4))∧(wA .u8 4 (sumL (w4 Y (i - 8)) (chgL (w4 Y (i - 1)) i))).all (fun v=>v.oneCell')=true)),(3,(IntKind.i64.wrap (((i:Nat):Int)+1))=((i+1:Nat):Int))] 1 (fun j M=>by kernel_rfl) (A1 (decide_eq_true (by omega)) (A1 (wi64 (by omega)) (A1 (by(try simp only[Int.toNat_natCast,wA_size]);omega) (A1 (ld4 (by omega) (by omega)) (A1 (wi64 (by omega)) (A1 (by(try simp only[Int.toNat_natCast,wA_size]);omega) (A1 (ld4 (by omega) (by omega)) (A1 ⟨dq (w4_by hYb _),rfl,by omega,by omega⟩ (A1 ⟨dq (w4_by hYb _),dq (chgL_by (w4_by hYb _) _)⟩ (A1 (by(try simp only[Int.toNat_natCast,wA_size]);omega) (A1 (st4 (m:=i) (by omega) (by omega) (by omega)) (A1 (wi64 (by omega)) A0)))))))))))) ⟨⟨by rw[hY,hi];rfl,by_app hYb (by_take (sumL_by _ _) 4),by rw[List.length_append,List.length_take];simp[sumL];omega,by omega,by omega⟩,rfl⟩
theorem aWd9 (hge:¬ n<52):aWdA_R [1,1,1,0,1,0,0] (aWdF k_4) (.exit 2) (fun z_=>∃(k_5:aWdG_c k_1 Y n i),z_=aWdG k_5):=by
  have⟨hK⟩:=id k_1
  have⟨hY,hYb,hl,hi,hn⟩:=id k_4
  exact rn_ev (yty.en tabC1) aWdA_h mixed _ none [some (.bool false)] [(3,(decide (((i:Nat):Int)<60))=false)] 0 (fun j M=>by kernel_rfl) (A1 (decide_eq_false (by omega)) A0) ⟨⟨hY,hYb,hl,hi,by omega⟩,rfl⟩
theorem aWda:aWdA_R [1,1,1,0,1] (aWdF k_4) .normal (fun z_=>∃(Y:List Int) (n i:Nat) (k_5:aWdG_c k_1 Y n i),z_=aWdG k_5):=by
  refine rn_loop (k:=2) (w:= [1,1,1,0,1]) (by kernel_rfl) (fun n_ z_=>∃(Y:List Int) (n i:Nat) (k_4:aWdF_c k_1 Y n i),n_=52 - n∧z_=aWdF k_4) _ ⟨_,_,_,k_4,rfl,rfl⟩ ?_
  rintro n_ _ ⟨Y,n,i,k_4,hn_,rfl⟩
  have⟨hK⟩:=k_1
  have⟨hY,hYb,hl,hi,hn⟩:=k_4
  by_cases hlt:n<52
  · exact(aWd8 hlt).x fun _ ⟨k_4,e_⟩=> .inl ⟨rfl,52 - (n+1),by omega,⟨_,_,_,k_4,rfl,e_⟩⟩
  · exact(aWd9 hlt).x fun _ ⟨k_5,e_⟩=> .inr ⟨rfl,⟨Y,n,i,k_5,e_⟩⟩
theorem aWdb:aWdA_R [1,1,1,0] (aWdE k_3) .normal (fun z_=>∃(Y1:List Int) (n1 i1:Nat) (k_5:aWdG_c k_1 Y1 n1 i1),z_=aWdG k_5):=by
  refine rn_seq (w:= [1,1,1,0]) (by kernel_rfl) aWd7 ?_
  rintro _ ⟨k_4,rfl⟩
  exact aWda
abbrev aWdH (_:aWdG_c k_1 Y n i):FS:=⟨false,50,[(1,.pointer (some ⟨0,0,none⟩)),(2,.pointer (some ⟨1,0,none⟩)),(3,.pointer (some ⟨2,0,none⟩))],[((wA .u8 32 K),(27,(0,0))),((wA .u8 240 Y),(71,(0,0))),((wA .u8 240 Y),(71,(0,0)))]⟩
theorem aWdc:aWdA_R [1,1,1,1] (aWdG k_5) .ret (fun z_=>z_=aWdH k_5):=by
  exact rn_ev (yty.en tabC1) aWdA_h mixed _ none [] [(2,((wA .u8 240 Y).all (fun v=>v.oneCell')=true))] 0 (fun j M=>by kernel_rfl) (A1 (wA_one _ _ _) A0) rfl
theorem aWdu':aWdA_R [] (aWdA k_1) .ret (fun z_=>∃(Y12:List Int) (k12:Nat) (Y13:List Int) (n13 i13:Nat) (k_5:aWdG_c k_1 Y13 n13 i13),z_=aWdH k_5):=by
  refine rn_seq (w:= []) (by kernel_rfl) aWd0 ?_
  rintro _ rfl
  refine rn_seq (w:= [1]) (by kernel_rfl) aWd1 ?_
  rintro _ rfl
  refine rn_seq (w:= [1,1]) (by kernel_rfl) aWd6 ?_
  rintro _ ⟨Y12,k12,k_3,rfl⟩
  refine rn_seq (w:= [1,1,1]) (by kernel_rfl) aWdb ?_
  rintro _ ⟨Y13,n13,i13,k_5,rfl⟩
  exact(aWdc).mono fun _ e_=>⟨Y12,k12,Y13,n13,i13,k_5,e_⟩
abbrev aWdA_s (K:List Int) (j:Nat→Value):List Value:=([.agg (wA .u8 32 K)] ++ (JU 49))
abbrev aWdA_m (K:List Int):List Mb:= []
abbrev aWdH_s (K Y:List Int) (n i:Nat) (j:Nat→Value):List Value:=([j 0,.pointer (some ⟨0,0,none⟩),.pointer (some ⟨1,0,none⟩),.pointer (some ⟨2,0,none⟩)] ++ (J j 4 46))
abbrev aWdH_m (K Y:List Int) (n i:Nat):List Mb:= [((wA .u8 32 K),(27,(0,0))),((wA .u8 240 Y),(71,(0,0))),((wA .u8 240 Y),(71,(0,0)))]
theorem aWdu (K:List Int) (j:Nat→Value) (hK:By K)  {c0:Prop} {ch0:List (Option Value)}:Runs Try.prog (cAt [] (bdy Try.f49)) ⟨aWdA_s K j,aWdA_m K,c0,ch0⟩ (fun e s=>e= .ret∧∃(Y12:List Int) (k12:Nat) (Y13:List Int) (n13:Nat) (i13:Nat) (j:Nat→Value) (c:Prop) (ch:List (Option Value)),(Y13=wdI K n13)∧(By Y13)∧(Y13.length=4*(n13+8))∧(i13=n13+8)∧(n13=52)∧s=⟨aWdH_s K Y13 n13 i13 j,aWdH_m K Y13 n13 i13,c,ch⟩) 0:=by
  refine(Rn.old (aWdu' (k_1:=(⟨hK⟩:aWdA_c K))) j (by kernel_rfl)).mono ?_
  rintro e s ⟨rfl,_,⟨Y12,k12,Y13,n13,i13,k_5,rfl⟩,j,c,ch,rfl⟩
  have⟨x_hY,x_hYb,x_hl,x_hi,x_hn⟩:=k_5
  exact⟨rfl,Y12,k12,Y13,n13,i13,j,c,ch,x_hY,x_hYb,x_hl,x_hi,x_hn,by kernel_rfl⟩
theorem aWd_c (K:List Int) (hK:By K):Pure Try.prog 49 #[.agg (wA .u8 32 K)] (.agg (wA .u8 240 (wdF K))):=by
  refine pure_runs (E:=(yty.en tabC1)) Try.func49 (c:=bdy Try.f49) (by kernel_rfl) (args:= [.agg (wA .u8 32 K)]) (by kernel_rfl) (K:=fun e s=>e= .ret∧resS (yty.en tabC1) s Try.f49.results.toList=some [.agg (wA .u8 240 (wdF K))]) ?_ (fun e s h=>⟨h.1,_,h.2,rfl⟩)
  refine(aWdu K (fun _=>undef) hK).mono ?_
  rintro e s ⟨rfl,hh⟩
  obtain⟨Y0,k0,Y,n,i,j,c,ch,hY,hYb,hl,hi,hn,rfl⟩:=hh
  have hw:wdF K=Y:=by rw[hY,hn];rfl
  rw[hw]
  exact⟨rfl,by kernel_rfl⟩
def pwd:Entry Try.prog:=entL Try.func49 (by kernel_rfl) (by kernel_rfl) 32 (fun K=> .agg (wA .u8 240 (wdF K))) (fun K h=>aWd_c K h)
def tabC2:List (Entry Try.prog):=pwd :: tabC1

end Go.Proofs.Ythldpfindbhkeaa
