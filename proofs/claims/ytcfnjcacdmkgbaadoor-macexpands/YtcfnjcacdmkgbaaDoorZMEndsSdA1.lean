import Derived.Test.YtcfnjcacdmkgbaaDoorZMEndsShI1
import Derived.Test.YtcfnjcacdmkgbaaDoorZMEndsEvW1
set_option linter.unusedSimpArgs false
set_option linter.unusedVariables false
/-! Small facts for what vc.py prints. -/
namespace Go.Proofs.YtcfnjcacdmkgbaaDoor
open Go.RowKit Go.Ev
variable {c0:Prop} {ch0:List (Option Value)}
theorem tmodN (a b:Nat):Int.tmod (a:Int) (b:Int)=((a%b:Nat):Int):=by
  rw[Int.tmod_eq_emod_of_nonneg (by omega)];rfl
theorem tdivN (a b:Nat):Int.tdiv (a:Int) (b:Int)=((a / b:Nat):Int):=by
  rw[Int.tdiv_eq_ediv_of_nonneg (by omega)];rfl
theorem tdivN_i64 (a b:Nat) (h:a<9223372036854775808):IntKind.i64.wrap (Int.tdiv (a:Int) (b:Int))=((a / b:Nat):Int):=by
  have:=Nat.div_le_self a b
  rw[tdivN,IntKind.wrap_i64]
  generalize a / b=c at this ⊢
  omega
theorem tdivN_u64 (a b:Nat) (h:a<18446744073709551616):IntKind.u64.wrap (Int.tdiv (a:Int) (b:Int))=((a / b:Nat):Int):=by
  have:=Nat.div_le_self a b
  rw[tdivN,IntKind.wrap_u64]
  generalize a / b=c at this ⊢
  omega
theorem neT {x y:Int} (h:x≠y):(!decide (x=y))=true:=by simp[h]
theorem neF {x y:Int} (h:x=y):(!decide (x=y))=false:=by simp[h]
theorem src_wA {q:IntKind} {mem:List Mb} {i cap len:Nat} {N:List Int} {st:TypeId×(Nat×Nat)} {c:Nat} (hm:mem[i]? =some (wA q cap N,st)) (hl:len=N.length) (hc:N.length≤cap):SrcOk q mem (.slice (some ⟨i,0,none⟩) len c) N:=by
  subst hl
  refine⟨.inr ⟨i,0,c,_,_,rfl,hm,by rw[wA_size];omega,?_⟩⟩
  rw[wA_list q cap N hc]
  apply Array.ext'
  simp only[Array.toList_extract,List.extract_eq_take_drop,Nat.zero_add,Nat.sub_zero,List.drop_zero]
  rw[List.take_append_of_le_length (by simp[Go.Ev.iv]),List.take_of_length_le (by simp[Go.Ev.iv])]
theorem src_nil {q:IntKind} {mem:List Mb}:SrcOk q mem (.slice none 0 0) []:=⟨.inl ⟨rfl,rfl⟩⟩
theorem src_b {mem:List Mb} {i o l c:Nat} {a:Array Value} {st:TypeId×(Nat×Nat)} (hm:mem[i]? =some (a,st)) (hb:bytesAt a o l) (hz:o+l≤a.size):SrcOk .u8 mem (.slice (some ⟨i,o,none⟩) l c) (bL a o l):=by
  have hl:=bL_len a o l
  refine⟨.inr ⟨i,o,c,_,_,by rw[hl],hm,by rw[hl];exact hz,?_⟩⟩
  rw[hl]
  apply Array.ext_getElem?
  intro j
  by_cases hj:j<l
  · rw [Array.getElem?_extract_of_lt (by omega)]
    have h1:=(hb j hj).1
    rw[Array.getElem?_eq_getElem (by omega)] at h1
    have h2:=bL_at (a:=a) (p:=o) (r:=l) (i:=j)
    rw[if_pos hj,List.getD_eq_getElem?_getD,List.getElem?_eq_getElem (by omega)] at h2
    simp only[Go.Ev.iv,List.getElem?_toArray,List.getElem?_map]
    rw[List.getElem?_eq_getElem (by omega)]
    simp only[Option.getD_some] at h2
    simp only[Option.map_some,h2]
    exact h1
  · rw[Array.getElem?_eq_none (by simp only[Array.size_extract];omega),Array.getElem?_eq_none (by simp[Go.Ev.iv,hl];omega)]
end Go.Proofs.YtcfnjcacdmkgbaaDoor

set_option linter.unusedSimpArgs false
set_option linter.unusedVariables false
/-! The document's SHA-2: its small functions. -/
namespace Go.Proofs.YtcfnjcacdmkgbaaDoor
open Go.RowKit Go.Ev
variable {c0:Prop} {ch0:List (Option Value)}
theorem apB:ApT Tryd.prog 22 5 .u8 1:=⟨Tryd.underlying22,by kernel_rfl⟩
theorem apW:ApT Tryd.prog 68 58 .u64 8:=⟨Tryd.underlying68,by kernel_rfl⟩
def dk80_h (i:Nat):Hn:=⟨0,[],[],[],[]⟩
def dk80_a (n:Nat):List Value:= [.int .i64 (n:Int),undef,undef,undef,undef,undef,undef,undef]
def dk80_b (n:Nat):List Value:= [.int .i64 (n:Int),undef,.int .u64 (kL5.getD n 0),.pointer (some ⟨0,0,none⟩),.agg (#[.int .u64 4794697086780616226,.int .u64 8158064640168781261,.int .u64 13096744586834688815,.int .u64 16840607885511220156,.int .u64 4131703408338449720,.int .u64 6480981068601479193,.int .u64 10538285296894168987,.int .u64 12329834152419229976,.int .u64 15566598209576043074,.int .u64 1334009975649890238,.int .u64 2608012711638119052,.int .u64 6128411473006802146,.int .u64 8268148722764581231,.int .u64 9286055187155687089,.int .u64 11230858885718282805,.int .u64 13951009754708518548,.int .u64 16472876342353939154,.int .u64 17275323862435702243,.int .u64 1135362057144423861,.int .u64 2597628984639134821,.int .u64 3308224258029322869,.int .u64 5365058923640841347,.int .u64 6679025012923562964,.int .u64 8573033837759648693,.int .u64 10970295158949994411,.int .u64 12119686244451234320,.int .u64 12683024718118986047,.int .u64 13788192230050041572,.int .u64 14330467153632333762,.int .u64 15395433587784984357,.int .u64 489312712824947311,.int .u64 1452737877330783856,.int .u64 2861767655752347644,.int .u64 3322285676063803686,.int .u64 5560940570517711597,.int .u64 5996557281743188959,.int .u64 7280758554555802590,.int .u64 8532644243296465576,.int .u64 9350256976987008742,.int .u64 10552545826968843579,.int .u64 11727347734174303076,.int .u64 12113106623233404929,.int .u64 14000437183269869457,.int .u64 14369950271660146224,.int .u64 15101387698204529176,.int .u64 15463397548674623760,.int .u64 17586052441742319658,.int .u64 1182934255886127544,.int .u64 1847814050463011016,.int .u64 2177327727835720531,.int .u64 2830643537854262169,.int .u64 3796741975233480872,.int .u64 4115178125766777443,.int .u64 5681478168544905931,.int .u64 6601373596472566643,.int .u64 7507060721942968483,.int .u64 8399075790359081724,.int .u64 8693463985226723168,.int .u64 9568029438360202098,.int .u64 10144078919501101548,.int .u64 10430055236837252648,.int .u64 11840083180663258601,.int .u64 13761210420658862357,.int .u64 14299343276471374635,.int .u64 14566680578165727644,.int .u64 15097957966210449927,.int .u64 16922976911328602910,.int .u64 17689382322260857208,.int .u64 500013540394364858,.int .u64 748580250866718886,.int .u64 1242879168328830382,.int .u64 1977374033974150939,.int .u64 2944078676154940804,.int .u64 3659926193048069267,.int .u64 4368137639120453308,.int .u64 4836135668995329356,.int .u64 5532061633213252278,.int .u64 6448918945643986474,.int .u64 6902733635092675308,.int .u64 7801388544844847127]:Array Value),.int .i64 (n:Int),.pointer (some ⟨0,0+Int.toNat (n:Int)*1,none⟩),.int .u64 (kL5.getD n 0)]
theorem dk80_0 (n:Nat):evC (yty.en tab0) dk80_h (cAt [] (bdy Tryd.f50)) ⟨dk80_a n,[],True,[some (.int .u64 (kL5.getD n 0))]⟩=some (.ret,⟨dk80_b n,[((#[.int .u64 4794697086780616226,.int .u64 8158064640168781261,.int .u64 13096744586834688815,.int .u64 16840607885511220156,.int .u64 4131703408338449720,.int .u64 6480981068601479193,.int .u64 10538285296894168987,.int .u64 12329834152419229976,.int .u64 15566598209576043074,.int .u64 1334009975649890238,.int .u64 2608012711638119052,.int .u64 6128411473006802146,.int .u64 8268148722764581231,.int .u64 9286055187155687089,.int .u64 11230858885718282805,.int .u64 13951009754708518548,.int .u64 16472876342353939154,.int .u64 17275323862435702243,.int .u64 1135362057144423861,.int .u64 2597628984639134821,.int .u64 3308224258029322869,.int .u64 5365058923640841347,.int .u64 6679025012923562964,.int .u64 8573033837759648693,.int .u64 10970295158949994411,.int .u64 12119686244451234320,.int .u64 12683024718118986047,.int .u64 13788192230050041572,.int .u64 14330467153632333762,.int .u64 15395433587784984357,.int .u64 489312712824947311,.int .u64 1452737877330783856,.int .u64 2861767655752347644,.int .u64 3322285676063803686,.int .u64 5560940570517711597,.int .u64 5996557281743188959,.int .u64 7280758554555802590,.int .u64 8532644243296465576,.int .u64 9350256976987008742,.int .u64 10552545826968843579,.int .u64 11727347734174303076,.int .u64 12113106623233404929,.int .u64 14000437183269869457,.int .u64 14369950271660146224,.int .u64 15101387698204529176,.int .u64 15463397548674623760,.int .u64 17586052441742319658,.int .u64 1182934255886127544,.int .u64 1847814050463011016,.int .u64 2177327727835720531,.int .u64 2830643537854262169,.int .u64 3796741975233480872,.int .u64 4115178125766777443,.int .u64 5681478168544905931,.int .u64 6601373596472566643,.int .u64 7507060721942968483,.int .u64 8399075790359081724,.int .u64 8693463985226723168,.int .u64 9568029438360202098,.int .u64 10144078919501101548,.int .u64 10430055236837252648,.int .u64 11840083180663258601,.int .u64 13761210420658862357,.int .u64 14299343276471374635,.int .u64 14566680578165727644,.int .u64 15097957966210449927,.int .u64 16922976911328602910,.int .u64 17689382322260857208,.int .u64 500013540394364858,.int .u64 748580250866718886,.int .u64 1242879168328830382,.int .u64 1977374033974150939,.int .u64 2944078676154940804,.int .u64 3659926193048069267,.int .u64 4368137639120453308,.int .u64 4836135668995329356,.int .u64 5532061633213252278,.int .u64 6448918945643986474,.int .u64 6902733635092675308,.int .u64 7801388544844847127]:Array Value),(72,(0,0)))],(((((((True∧True)∧True)∧((#[.int .u64 4794697086780616226,.int .u64 8158064640168781261,.int .u64 13096744586834688815,.int .u64 16840607885511220156,.int .u64 4131703408338449720,.int .u64 6480981068601479193,.int .u64 10538285296894168987,.int .u64 12329834152419229976,.int .u64 15566598209576043074,.int .u64 1334009975649890238,.int .u64 2608012711638119052,.int .u64 6128411473006802146,.int .u64 8268148722764581231,.int .u64 9286055187155687089,.int .u64 11230858885718282805,.int .u64 13951009754708518548,.int .u64 16472876342353939154,.int .u64 17275323862435702243,.int .u64 1135362057144423861,.int .u64 2597628984639134821,.int .u64 3308224258029322869,.int .u64 5365058923640841347,.int .u64 6679025012923562964,.int .u64 8573033837759648693,.int .u64 10970295158949994411,.int .u64 12119686244451234320,.int .u64 12683024718118986047,.int .u64 13788192230050041572,.int .u64 14330467153632333762,.int .u64 15395433587784984357,.int .u64 489312712824947311,.int .u64 1452737877330783856,.int .u64 2861767655752347644,.int .u64 3322285676063803686,.int .u64 5560940570517711597,.int .u64 5996557281743188959,.int .u64 7280758554555802590,.int .u64 8532644243296465576,.int .u64 9350256976987008742,.int .u64 10552545826968843579,.int .u64 11727347734174303076,.int .u64 12113106623233404929,.int .u64 14000437183269869457,.int .u64 14369950271660146224,.int .u64 15101387698204529176,.int .u64 15463397548674623760,.int .u64 17586052441742319658,.int .u64 1182934255886127544,.int .u64 1847814050463011016,.int .u64 2177327727835720531,.int .u64 2830643537854262169,.int .u64 3796741975233480872,.int .u64 4115178125766777443,.int .u64 5681478168544905931,.int .u64 6601373596472566643,.int .u64 7507060721942968483,.int .u64 8399075790359081724,.int .u64 8693463985226723168,.int .u64 9568029438360202098,.int .u64 10144078919501101548,.int .u64 10430055236837252648,.int .u64 11840083180663258601,.int .u64 13761210420658862357,.int .u64 14299343276471374635,.int .u64 14566680578165727644,.int .u64 15097957966210449927,.int .u64 16922976911328602910,.int .u64 17689382322260857208,.int .u64 500013540394364858,.int .u64 748580250866718886,.int .u64 1242879168328830382,.int .u64 1977374033974150939,.int .u64 2944078676154940804,.int .u64 3659926193048069267,.int .u64 4368137639120453308,.int .u64 4836135668995329356,.int .u64 5532061633213252278,.int .u64 6448918945643986474,.int .u64 6902733635092675308,.int .u64 7801388544844847127]:Array Value).all (fun v=>v.oneCell')=true))∧True)∧(0≤(n:Int)∧(n:Int)<((80:Nat):Int)))∧(((#[.int .u64 4794697086780616226,.int .u64 8158064640168781261,.int .u64 13096744586834688815,.int .u64 16840607885511220156,.int .u64 4131703408338449720,.int .u64 6480981068601479193,.int .u64 10538285296894168987,.int .u64 12329834152419229976,.int .u64 15566598209576043074,.int .u64 1334009975649890238,.int .u64 2608012711638119052,.int .u64 6128411473006802146,.int .u64 8268148722764581231,.int .u64 9286055187155687089,.int .u64 11230858885718282805,.int .u64 13951009754708518548,.int .u64 16472876342353939154,.int .u64 17275323862435702243,.int .u64 1135362057144423861,.int .u64 2597628984639134821,.int .u64 3308224258029322869,.int .u64 5365058923640841347,.int .u64 6679025012923562964,.int .u64 8573033837759648693,.int .u64 10970295158949994411,.int .u64 12119686244451234320,.int .u64 12683024718118986047,.int .u64 13788192230050041572,.int .u64 14330467153632333762,.int .u64 15395433587784984357,.int .u64 489312712824947311,.int .u64 1452737877330783856,.int .u64 2861767655752347644,.int .u64 3322285676063803686,.int .u64 5560940570517711597,.int .u64 5996557281743188959,.int .u64 7280758554555802590,.int .u64 8532644243296465576,.int .u64 9350256976987008742,.int .u64 10552545826968843579,.int .u64 11727347734174303076,.int .u64 12113106623233404929,.int .u64 14000437183269869457,.int .u64 14369950271660146224,.int .u64 15101387698204529176,.int .u64 15463397548674623760,.int .u64 17586052441742319658,.int .u64 1182934255886127544,.int .u64 1847814050463011016,.int .u64 2177327727835720531,.int .u64 2830643537854262169,.int .u64 3796741975233480872,.int .u64 4115178125766777443,.int .u64 5681478168544905931,.int .u64 6601373596472566643,.int .u64 7507060721942968483,.int .u64 8399075790359081724,.int .u64 8693463985226723168,.int .u64 9568029438360202098,.int .u64 10144078919501101548,.int .u64 10430055236837252648,.int .u64 11840083180663258601,.int .u64 13761210420658862357,.int .u64 14299343276471374635,.int .u64 14566680578165727644,.int .u64 15097957966210449927,.int .u64 16922976911328602910,.int .u64 17689382322260857208,.int .u64 500013540394364858,.int .u64 748580250866718886,.int .u64 1242879168328830382,.int .u64 1977374033974150939,.int .u64 2944078676154940804,.int .u64 3659926193048069267,.int .u64 4368137639120453308,.int .u64 4836135668995329356,.int .u64 5532061633213252278,.int .u64 6448918945643986474,.int .u64 6902733635092675308,.int .u64 7801388544844847127]:Array Value)[(0+Int.toNat (n:Int)*1)]? =some (.int .u64 (kL5.getD n 0)))∧(kL5.getD n 0)=(kL5.getD n 0)))∧True),[]⟩):=by kernel_rfl
theorem dk80_r (n:Nat)   (q0:((#[.int .u64 4794697086780616226,.int .u64 8158064640168781261,.int .u64 13096744586834688815,.int .u64 16840607885511220156,.int .u64 4131703408338449720,.int .u64 6480981068601479193,.int .u64 10538285296894168987,.int .u64 12329834152419229976,.int .u64 15566598209576043074,.int .u64 1334009975649890238,.int .u64 2608012711638119052,.int .u64 6128411473006802146,.int .u64 8268148722764581231,.int .u64 9286055187155687089,.int .u64 11230858885718282805,.int .u64 13951009754708518548,.int .u64 16472876342353939154,.int .u64 17275323862435702243,.int .u64 1135362057144423861,.int .u64 2597628984639134821,.int .u64 3308224258029322869,.int .u64 5365058923640841347,.int .u64 6679025012923562964,.int .u64 8573033837759648693,.int .u64 10970295158949994411,.int .u64 12119686244451234320,.int .u64 12683024718118986047,.int .u64 13788192230050041572,.int .u64 14330467153632333762,.int .u64 15395433587784984357,.int .u64 489312712824947311,.int .u64 1452737877330783856,.int .u64 2861767655752347644,.int .u64 3322285676063803686,.int .u64 5560940570517711597,.int .u64 5996557281743188959,.int .u64 7280758554555802590,.int .u64 8532644243296465576,.int .u64 9350256976987008742,.int .u64 10552545826968843579,.int .u64 11727347734174303076,.int .u64 12113106623233404929,.int .u64 14000437183269869457,.int .u64 14369950271660146224,.int .u64 15101387698204529176,.int .u64 15463397548674623760,.int .u64 17586052441742319658,.int .u64 1182934255886127544,.int .u64 1847814050463011016,.int .u64 2177327727835720531,.int .u64 2830643537854262169,.int .u64 3796741975233480872,.int .u64 4115178125766777443,.int .u64 5681478168544905931,.int .u64 6601373596472566643,.int .u64 7507060721942968483,.int .u64 8399075790359081724,.int .u64 8693463985226723168,.int .u64 9568029438360202098,.int .u64 10144078919501101548,.int .u64 10430055236837252648,.int .u64 11840083180663258601,.int .u64 13761210420658862357,.int .u64 14299343276471374635,.int .u64 14566680578165727644,.int .u64 15097957966210449927,.int .u64 16922976911328602910,.int .u64 17689382322260857208,.int .u64 500013540394364858,.int .u64 748580250866718886,.int .u64 1242879168328830382,.int .u64 1977374033974150939,.int .u64 2944078676154940804,.int .u64 3659926193048069267,.int .u64 4368137639120453308,.int .u64 4836135668995329356,.int .u64 5532061633213252278,.int .u64 6448918945643986474,.int .u64 6902733635092675308,.int .u64 7801388544844847127]:Array Value).all (fun v=>v.oneCell')=true)) (q1:(0≤(n:Int)∧(n:Int)<((80:Nat):Int))) (q2:(((#[.int .u64 4794697086780616226,.int .u64 8158064640168781261,.int .u64 13096744586834688815,.int .u64 16840607885511220156,.int .u64 4131703408338449720,.int .u64 6480981068601479193,.int .u64 10538285296894168987,.int .u64 12329834152419229976,.int .u64 15566598209576043074,.int .u64 1334009975649890238,.int .u64 2608012711638119052,.int .u64 6128411473006802146,.int .u64 8268148722764581231,.int .u64 9286055187155687089,.int .u64 11230858885718282805,.int .u64 13951009754708518548,.int .u64 16472876342353939154,.int .u64 17275323862435702243,.int .u64 1135362057144423861,.int .u64 2597628984639134821,.int .u64 3308224258029322869,.int .u64 5365058923640841347,.int .u64 6679025012923562964,.int .u64 8573033837759648693,.int .u64 10970295158949994411,.int .u64 12119686244451234320,.int .u64 12683024718118986047,.int .u64 13788192230050041572,.int .u64 14330467153632333762,.int .u64 15395433587784984357,.int .u64 489312712824947311,.int .u64 1452737877330783856,.int .u64 2861767655752347644,.int .u64 3322285676063803686,.int .u64 5560940570517711597,.int .u64 5996557281743188959,.int .u64 7280758554555802590,.int .u64 8532644243296465576,.int .u64 9350256976987008742,.int .u64 10552545826968843579,.int .u64 11727347734174303076,.int .u64 12113106623233404929,.int .u64 14000437183269869457,.int .u64 14369950271660146224,.int .u64 15101387698204529176,.int .u64 15463397548674623760,.int .u64 17586052441742319658,.int .u64 1182934255886127544,.int .u64 1847814050463011016,.int .u64 2177327727835720531,.int .u64 2830643537854262169,.int .u64 3796741975233480872,.int .u64 4115178125766777443,.int .u64 5681478168544905931,.int .u64 6601373596472566643,.int .u64 7507060721942968483,.int .u64 8399075790359081724,.int .u64 8693463985226723168,.int .u64 9568029438360202098,.int .u64 10144078919501101548,.int .u64 10430055236837252648,.int .u64 11840083180663258601,.int .u64 13761210420658862357,.int .u64 14299343276471374635,.int .u64 14566680578165727644,.int .u64 15097957966210449927,.int .u64 16922976911328602910,.int .u64 17689382322260857208,.int .u64 500013540394364858,.int .u64 748580250866718886,.int .u64 1242879168328830382,.int .u64 1977374033974150939,.int .u64 2944078676154940804,.int .u64 3659926193048069267,.int .u64 4368137639120453308,.int .u64 4836135668995329356,.int .u64 5532061633213252278,.int .u64 6448918945643986474,.int .u64 6902733635092675308,.int .u64 7801388544844847127]:Array Value)[(0+Int.toNat (n:Int)*1)]? =some (.int .u64 (kL5.getD n 0)))∧(kL5.getD n 0)=(kL5.getD n 0)))  :Runs Tryd.prog (cAt [] (bdy Tryd.f50)) ⟨dk80_a n,[],c0,ch0⟩ (fun e s=>e= .ret∧∃ c ch,s=⟨dk80_b n,[((#[.int .u64 4794697086780616226,.int .u64 8158064640168781261,.int .u64 13096744586834688815,.int .u64 16840607885511220156,.int .u64 4131703408338449720,.int .u64 6480981068601479193,.int .u64 10538285296894168987,.int .u64 12329834152419229976,.int .u64 15566598209576043074,.int .u64 1334009975649890238,.int .u64 2608012711638119052,.int .u64 6128411473006802146,.int .u64 8268148722764581231,.int .u64 9286055187155687089,.int .u64 11230858885718282805,.int .u64 13951009754708518548,.int .u64 16472876342353939154,.int .u64 17275323862435702243,.int .u64 1135362057144423861,.int .u64 2597628984639134821,.int .u64 3308224258029322869,.int .u64 5365058923640841347,.int .u64 6679025012923562964,.int .u64 8573033837759648693,.int .u64 10970295158949994411,.int .u64 12119686244451234320,.int .u64 12683024718118986047,.int .u64 13788192230050041572,.int .u64 14330467153632333762,.int .u64 15395433587784984357,.int .u64 489312712824947311,.int .u64 1452737877330783856,.int .u64 2861767655752347644,.int .u64 3322285676063803686,.int .u64 5560940570517711597,.int .u64 5996557281743188959,.int .u64 7280758554555802590,.int .u64 8532644243296465576,.int .u64 9350256976987008742,.int .u64 10552545826968843579,.int .u64 11727347734174303076,.int .u64 12113106623233404929,.int .u64 14000437183269869457,.int .u64 14369950271660146224,.int .u64 15101387698204529176,.int .u64 15463397548674623760,.int .u64 17586052441742319658,.int .u64 1182934255886127544,.int .u64 1847814050463011016,.int .u64 2177327727835720531,.int .u64 2830643537854262169,.int .u64 3796741975233480872,.int .u64 4115178125766777443,.int .u64 5681478168544905931,.int .u64 6601373596472566643,.int .u64 7507060721942968483,.int .u64 8399075790359081724,.int .u64 8693463985226723168,.int .u64 9568029438360202098,.int .u64 10144078919501101548,.int .u64 10430055236837252648,.int .u64 11840083180663258601,.int .u64 13761210420658862357,.int .u64 14299343276471374635,.int .u64 14566680578165727644,.int .u64 15097957966210449927,.int .u64 16922976911328602910,.int .u64 17689382322260857208,.int .u64 500013540394364858,.int .u64 748580250866718886,.int .u64 1242879168328830382,.int .u64 1977374033974150939,.int .u64 2944078676154940804,.int .u64 3659926193048069267,.int .u64 4368137639120453308,.int .u64 4836135668995329356,.int .u64 5532061633213252278,.int .u64 6448918945643986474,.int .u64 6902733635092675308,.int .u64 7801388544844847127]:Array Value),(72,(0,0)))],c,ch⟩):=by
  refine(runs_ev mixed [some (.int .u64 (kL5.getD n 0))] (dk80_0 n ) (tt1 ⟨⟨(tt1 ⟨(tt2 trivial),q0⟩),q1⟩,q2⟩)).mono ?_
  rintro e s ⟨rfl,rfl⟩
  exact⟨rfl,_,_,rfl⟩
def dk8_h (i:Nat):Hn:=⟨0,[],[],[],[]⟩
def dk8_a (n:Nat):List Value:= [.int .i64 (n:Int),undef,undef,undef,undef,undef,undef,undef]
def dk8_b (n:Nat):List Value:= [.int .i64 (n:Int),undef,.int .u64 (bg5.getD n 0),.pointer (some ⟨0,0,none⟩),.agg (#[.int .u64 7640891576956012808,.int .u64 13503953896175478587,.int .u64 4354685564936845355,.int .u64 11912009170470909681,.int .u64 5840696475078001361,.int .u64 11170449401992604703,.int .u64 2270897969802886507,.int .u64 6620516959819538809]:Array Value),.int .i64 (n:Int),.pointer (some ⟨0,0+Int.toNat (n:Int)*1,none⟩),.int .u64 (bg5.getD n 0)]
theorem dk8_0 (n:Nat):evC (yty.en tab0) dk8_h (cAt [] (bdy Tryd.f46)) ⟨dk8_a n,[],True,[some (.int .u64 (bg5.getD n 0))]⟩=some (.ret,⟨dk8_b n,[((#[.int .u64 7640891576956012808,.int .u64 13503953896175478587,.int .u64 4354685564936845355,.int .u64 11912009170470909681,.int .u64 5840696475078001361,.int .u64 11170449401992604703,.int .u64 2270897969802886507,.int .u64 6620516959819538809]:Array Value),(59,(0,0)))],(((((((True∧True)∧True)∧((#[.int .u64 7640891576956012808,.int .u64 13503953896175478587,.int .u64 4354685564936845355,.int .u64 11912009170470909681,.int .u64 5840696475078001361,.int .u64 11170449401992604703,.int .u64 2270897969802886507,.int .u64 6620516959819538809]:Array Value).all (fun v=>v.oneCell')=true))∧True)∧(0≤(n:Int)∧(n:Int)<((8:Nat):Int)))∧(((#[.int .u64 7640891576956012808,.int .u64 13503953896175478587,.int .u64 4354685564936845355,.int .u64 11912009170470909681,.int .u64 5840696475078001361,.int .u64 11170449401992604703,.int .u64 2270897969802886507,.int .u64 6620516959819538809]:Array Value)[(0+Int.toNat (n:Int)*1)]? =some (.int .u64 (bg5.getD n 0)))∧(bg5.getD n 0)=(bg5.getD n 0)))∧True),[]⟩):=by kernel_rfl
theorem dk8_r (n:Nat)   (q0:((#[.int .u64 7640891576956012808,.int .u64 13503953896175478587,.int .u64 4354685564936845355,.int .u64 11912009170470909681,.int .u64 5840696475078001361,.int .u64 11170449401992604703,.int .u64 2270897969802886507,.int .u64 6620516959819538809]:Array Value).all (fun v=>v.oneCell')=true)) (q1:(0≤(n:Int)∧(n:Int)<((8:Nat):Int))) (q2:(((#[.int .u64 7640891576956012808,.int .u64 13503953896175478587,.int .u64 4354685564936845355,.int .u64 11912009170470909681,.int .u64 5840696475078001361,.int .u64 11170449401992604703,.int .u64 2270897969802886507,.int .u64 6620516959819538809]:Array Value)[(0+Int.toNat (n:Int)*1)]? =some (.int .u64 (bg5.getD n 0)))∧(bg5.getD n 0)=(bg5.getD n 0)))  :Runs Tryd.prog (cAt [] (bdy Tryd.f46)) ⟨dk8_a n,[],c0,ch0⟩ (fun e s=>e= .ret∧∃ c ch,s=⟨dk8_b n,[((#[.int .u64 7640891576956012808,.int .u64 13503953896175478587,.int .u64 4354685564936845355,.int .u64 11912009170470909681,.int .u64 5840696475078001361,.int .u64 11170449401992604703,.int .u64 2270897969802886507,.int .u64 6620516959819538809]:Array Value),(59,(0,0)))],c,ch⟩):=by
  refine(runs_ev mixed [some (.int .u64 (bg5.getD n 0))] (dk8_0 n ) (tt1 ⟨⟨(tt1 ⟨(tt2 trivial),q0⟩),q1⟩,q2⟩)).mono ?_
  rintro e s ⟨rfl,rfl⟩
  exact⟨rfl,_,_,rfl⟩
theorem dk80_eq:(#[.int .u64 4794697086780616226,.int .u64 8158064640168781261,.int .u64 13096744586834688815,.int .u64 16840607885511220156,.int .u64 4131703408338449720,.int .u64 6480981068601479193,.int .u64 10538285296894168987,.int .u64 12329834152419229976,.int .u64 15566598209576043074,.int .u64 1334009975649890238,.int .u64 2608012711638119052,.int .u64 6128411473006802146,.int .u64 8268148722764581231,.int .u64 9286055187155687089,.int .u64 11230858885718282805,.int .u64 13951009754708518548,.int .u64 16472876342353939154,.int .u64 17275323862435702243,.int .u64 1135362057144423861,.int .u64 2597628984639134821,.int .u64 3308224258029322869,.int .u64 5365058923640841347,.int .u64 6679025012923562964,.int .u64 8573033837759648693,.int .u64 10970295158949994411,.int .u64 12119686244451234320,.int .u64 12683024718118986047,.int .u64 13788192230050041572,.int .u64 14330467153632333762,.int .u64 15395433587784984357,.int .u64 489312712824947311,.int .u64 1452737877330783856,.int .u64 2861767655752347644,.int .u64 3322285676063803686,.int .u64 5560940570517711597,.int .u64 5996557281743188959,.int .u64 7280758554555802590,.int .u64 8532644243296465576,.int .u64 9350256976987008742,.int .u64 10552545826968843579,.int .u64 11727347734174303076,.int .u64 12113106623233404929,.int .u64 14000437183269869457,.int .u64 14369950271660146224,.int .u64 15101387698204529176,.int .u64 15463397548674623760,.int .u64 17586052441742319658,.int .u64 1182934255886127544,.int .u64 1847814050463011016,.int .u64 2177327727835720531,.int .u64 2830643537854262169,.int .u64 3796741975233480872,.int .u64 4115178125766777443,.int .u64 5681478168544905931,.int .u64 6601373596472566643,.int .u64 7507060721942968483,.int .u64 8399075790359081724,.int .u64 8693463985226723168,.int .u64 9568029438360202098,.int .u64 10144078919501101548,.int .u64 10430055236837252648,.int .u64 11840083180663258601,.int .u64 13761210420658862357,.int .u64 14299343276471374635,.int .u64 14566680578165727644,.int .u64 15097957966210449927,.int .u64 16922976911328602910,.int .u64 17689382322260857208,.int .u64 500013540394364858,.int .u64 748580250866718886,.int .u64 1242879168328830382,.int .u64 1977374033974150939,.int .u64 2944078676154940804,.int .u64 3659926193048069267,.int .u64 4368137639120453308,.int .u64 4836135668995329356,.int .u64 5532061633213252278,.int .u64 6448918945643986474,.int .u64 6902733635092675308,.int .u64 7801388544844847127]:Array Value)=wA .u64 80 kL5:=by kernel_rfl
theorem DConst_c (n:Nat) (hn:n<80):Pure Tryd.prog 50 #[.int .i64 (n:Int)] (.int .u64 (kL5.getD n 0)):=by
  refine pure_runs (E:=yty.en tab0) Tryd.func50 (c:=bdy Tryd.f50) (by kernel_rfl) (args:= [.int .i64 (n:Int)]) rfl (K:=fun e s=>e= .ret∧resS (yty.en tab0) s Tryd.f50.results.toList=some [.int .u64 (kL5.getD n 0)]) ?_ (fun e s h=>⟨h.1,_,h.2,rfl⟩)
  refine(dk80_r n (by rw[dk80_eq];exact wA_one _ _ _) ⟨by omega,by omega⟩ ⟨by rw[dk80_eq];exact wA_get (by omega) (by omega),rfl⟩).mono ?_
  rintro e s ⟨rfl,c,ch,hs⟩
  subst hs
  generalize kL5.getD n 0=x
  exact⟨rfl,by kernel_rfl⟩
def pdCo : Entry Tryd.prog where
  f:=50
  g:=fun _ xs=>match xs with| [.int .i64 m]=>some (.int .u64 (kL5.getD m.toNat 0),(0≤m∧m<80))|_=>none
  ok := fun _ xs u c e hc w β _ _ => by
    split at e
    · rename_i m
      simp only[Option.some.injEq,Prod.mk.injEq] at e
      obtain⟨rfl,rfl⟩:=e
      have:=DConst_c m.toNat (by omega) w
      rw[Int.toNat_of_nonneg hc.1] at this
      exact this
    · cases e
  call:=call_of Tryd.func50 (by kernel_rfl) (by kernel_rfl)
theorem dk8_eq:(#[.int .u64 7640891576956012808,.int .u64 13503953896175478587,.int .u64 4354685564936845355,.int .u64 11912009170470909681,.int .u64 5840696475078001361,.int .u64 11170449401992604703,.int .u64 2270897969802886507,.int .u64 6620516959819538809]:Array Value)=wA .u64 8 bg5:=by kernel_rfl
theorem DBegs_c (n:Nat) (hn:n<8):Pure Tryd.prog 46 #[.int .i64 (n:Int)] (.int .u64 (bg5.getD n 0)):=by
  refine pure_runs (E:=yty.en tab0) Tryd.func46 (c:=bdy Tryd.f46) (by kernel_rfl) (args:= [.int .i64 (n:Int)]) rfl (K:=fun e s=>e= .ret∧resS (yty.en tab0) s Tryd.f46.results.toList=some [.int .u64 (bg5.getD n 0)]) ?_ (fun e s h=>⟨h.1,_,h.2,rfl⟩)
  refine(dk8_r n (by rw[dk8_eq];exact wA_one _ _ _) ⟨by omega,by omega⟩ ⟨by rw[dk8_eq];exact wA_get (by omega) (by omega),rfl⟩).mono ?_
  rintro e s ⟨rfl,c,ch,hs⟩
  subst hs
  generalize bg5.getD n 0=x
  exact⟨rfl,by kernel_rfl⟩
def pdBe : Entry Tryd.prog where
  f:=46
  g:=fun _ xs=>match xs with| [.int .i64 m]=>some (.int .u64 (bg5.getD m.toNat 0),(0≤m∧m<8))|_=>none
  ok := fun _ xs u c e hc w β _ _ => by
    split at e
    · rename_i m
      simp only[Option.some.injEq,Prod.mk.injEq] at e
      obtain⟨rfl,rfl⟩:=e
      have:=DBegs_c m.toNat (by omega) w
      rw[Int.toNat_of_nonneg hc.1] at this
      exact this
    · cases e
  call:=call_of Tryd.func46 (by kernel_rfl) (by kernel_rfl)
def tabD0:List (Entry Tryd.prog):=pdCo :: pdBe :: []
def qC2:Array Value:=wA .i64 14 [32,64,2,13,22,6,11,25,7,18,3,17,19,10]
def dof2_h (i:Nat):Hn:=⟨0,[],[],[],[]⟩
def dof2_a:List Value:= [undef,undef,undef,undef,undef,undef,undef]
def dof2_b:List Value:= [.pointer (some ⟨0,0,none⟩),.agg (wA .i64 3 [2,13,22]),.agg (wA .i64 3 [6,11,25]),.agg (wA .i64 3 [7,18,3]),.agg (wA .i64 3 [17,19,10]),.agg (wA .i64 12 [2,13,22,6,11,25,7,18,3,17,19,10]),.agg (wA .i64 14 [32,64,2,13,22,6,11,25,7,18,3,17,19,10])]
theorem dof2_0:evC (yty.en tab0) dof2_h (cAt [] (bdy Tryd.f31)) ⟨dof2_a,[],True,[]⟩=some (.ret,⟨dof2_b,[((wA .i64 14 [32,64,2,13,22,6,11,25,7,18,3,17,19,10]),(50,(0,0)))],(((((((True∧True)∧True)∧True)∧True)∧True)∧True)∧((wA .i64 14 [32,64,2,13,22,6,11,25,7,18,3,17,19,10]).all (fun v=>v.oneCell')=true)),[]⟩):=by kernel_rfl
theorem dof2_r    (q0:((wA .i64 14 [32,64,2,13,22,6,11,25,7,18,3,17,19,10]).all (fun v=>v.oneCell')=true))  :Runs Tryd.prog (cAt [] (bdy Tryd.f31)) ⟨dof2_a,[],c0,ch0⟩ (fun e s=>e= .ret∧∃ c ch,s=⟨dof2_b,[((wA .i64 14 [32,64,2,13,22,6,11,25,7,18,3,17,19,10]),(50,(0,0)))],c,ch⟩):=by
  refine(runs_ev mixed [] (dof2_0  ) ⟨(tt6 trivial),q0⟩).mono ?_
  rintro e s ⟨rfl,rfl⟩
  exact⟨rfl,_,_,rfl⟩
theorem Dof2_c:Pure Tryd.prog 31 #[] (.agg qC2):=by
  refine pure_runs (E:=yty.en tab0) Tryd.func31 (c:=bdy Tryd.f31) (by kernel_rfl) (args:= []) rfl (K:=fun e s=>e= .ret∧resS (yty.en tab0) s Tryd.f31.results.toList=some [.agg qC2]) ?_ (fun e s h=>⟨h.1,_,h.2,rfl⟩)
  refine(dof2_r (wA_one _ _ _)).mono ?_
  rintro e s ⟨rfl,c,ch,hs⟩
  subst hs
  exact⟨rfl,by kernel_rfl⟩
def pdOf2:Entry Tryd.prog:=ent0 Tryd.func31 (by kernel_rfl) (by kernel_rfl) (.agg qC2) Dof2_c
def cu2 (x:Int):Int:=IntKind.u64.wrap (x*2 ^ (32)) / 2 ^ (32)
def dcu2_h (i:Nat):Hn:=if i=1 then⟨10,[],[],[],[]⟩ else⟨0,[],[],[],[]⟩
def dcu2_a (x:Int):List Value:= [.agg (wA .i64 14 [32,64,2,13,22,6,11,25,7,18,3,17,19,10]),.int .u64 x,undef,undef,undef,undef,undef,undef,undef,undef,undef,undef,undef,undef]
def dcu2_b (x:Int):List Value:= [.agg (wA .i64 14 [32,64,2,13,22,6,11,25,7,18,3,17,19,10]),.int .u64 x,.pointer (some ⟨0,0,none⟩),undef,.int .u64 ((IntKind.u64.wrap (x*2 ^ (32))) / 2 ^ (32)),.int .u64 x,.pointer (some ⟨0,0,none⟩),.int .i64 32,.int .i64 32,.int .u64 (IntKind.u64.wrap (x*2 ^ (32))),.pointer (some ⟨0,0,none⟩),.int .i64 32,.int .i64 32,.int .u64 ((IntKind.u64.wrap (x*2 ^ (32))) / 2 ^ (32))]
theorem dcu2_0 (x:Int):evC (yty.en tab0) dcu2_h (cAt [] (bdy Tryd.f48)) ⟨dcu2_a x,[],True,[]⟩=some (.ret,⟨dcu2_b x,[((wA .i64 14 [32,64,2,13,22,6,11,25,7,18,3,17,19,10]),(50,(0,0)))],(((((((((((True∧True)∧True)∧True)∧True)∧True)∧((0:Int)≤32))∧True)∧True)∧True)∧((0:Int)≤32))∧True),[]⟩):=by kernel_rfl
theorem dcu2_r (x:Int)    :Runs Tryd.prog (cAt [] (bdy Tryd.f48)) ⟨dcu2_a x,[],c0,ch0⟩ (fun e s=>e= .ret∧∃ c ch,s=⟨dcu2_b x,[((wA .i64 14 [32,64,2,13,22,6,11,25,7,18,3,17,19,10]),(50,(0,0)))],c,ch⟩):=by
  refine(runs_ev mixed [] (dcu2_0 x ) (tt1 ⟨(tt3 ⟨(tt5 trivial),(by decide)⟩),(by decide)⟩)).mono ?_
  rintro e s ⟨rfl,rfl⟩
  exact⟨rfl,_,_,rfl⟩
theorem Dcut2_c (x:Int):Pure Tryd.prog 48 #[.agg qC2,.int .u64 x] (.int .u64 (cu2 x)):=by
  refine pure_runs (E:=yty.en tab0) Tryd.func48 (c:=bdy Tryd.f48) (by kernel_rfl) (args:= [.agg qC2,.int .u64 x]) rfl (K:=fun e s=>e= .ret∧resS (yty.en tab0) s Tryd.f48.results.toList=some [.int .u64 (cu2 x)]) ?_ (fun e s h=>⟨h.1,_,h.2,rfl⟩)
  refine(dcu2_r x).mono ?_
  rintro e s ⟨rfl,c,ch,hs⟩
  subst hs
  exact⟨rfl,by kernel_rfl⟩
def pdCu2 : Entry Tryd.prog where
  f:=48
  g:=fun _ xs=>match xs with| [.agg a,.int .u64 x]=>some (.int .u64 (cu2 x),a=qC2)|_=>none
  ok := fun _ xs u c e hc w β _ _ => by
    split at e
    · simp only [Option.some.injEq, Prod.mk.injEq] at e
      obtain⟨rfl,rfl⟩:=e
      subst hc
      exact Dcut2_c _ w
    · cases e
  call:=call_of Tryd.func48 (by kernel_rfl) (by kernel_rfl)
def tabDa2:List (Entry Tryd.prog):=pdCu2 :: tabD0
def dri2_h (i:Nat):Hn:=if i=1 then⟨13,[],[],[],[]⟩ else⟨0,[],[],[],[]⟩
def dri2_a (x m:Int):List Value:= [.agg (wA .i64 14 [32,64,2,13,22,6,11,25,7,18,3,17,19,10]),.int .u64 x,.int .i64 (m:Int),undef,undef,undef,undef,undef,undef,undef,undef,undef,undef,undef,undef,undef,undef,undef,undef]
def dri2_b (x m:Int):List Value:= [.agg (wA .i64 14 [32,64,2,13,22,6,11,25,7,18,3,17,19,10]),.int .u64 x,.int .i64 (m:Int),.pointer (some ⟨0,0,none⟩),undef,undef,.int .u64 (cu2 (IntKind.u64.wrap ((x / 2 ^ (min (Int.toNat (m:Int)) 64))+(IntKind.u64.wrap (x*2 ^ (min (Int.toNat (IntKind.i64.wrap (32 - (m:Int)))) 64)))))),.agg (wA .i64 14 [32,64,2,13,22,6,11,25,7,18,3,17,19,10]),.int .u64 x,.int .i64 (m:Int),.int .u64 (x / 2 ^ (min (Int.toNat (m:Int)) 64)),.int .u64 x,.pointer (some ⟨0,0,none⟩),.int .i64 32,.int .i64 (m:Int),.int .i64 (IntKind.i64.wrap (32 - (m:Int))),.int .u64 (IntKind.u64.wrap (x*2 ^ (min (Int.toNat (IntKind.i64.wrap (32 - (m:Int)))) 64))),.int .u64 (IntKind.u64.wrap ((x / 2 ^ (min (Int.toNat (m:Int)) 64))+(IntKind.u64.wrap (x*2 ^ (min (Int.toNat (IntKind.i64.wrap (32 - (m:Int)))) 64))))),.int .u64 (cu2 (IntKind.u64.wrap ((x / 2 ^ (min (Int.toNat (m:Int)) 64))+(IntKind.u64.wrap (x*2 ^ (min (Int.toNat (IntKind.i64.wrap (32 - (m:Int)))) 64))))))]
theorem dri2_0 (x m:Int):evC (yty.en tabDa2) dri2_h (cAt [] (bdy Tryd.f60)) ⟨dri2_a x m,[],True,[]⟩=some (.ret,⟨dri2_b x m,[((wA .i64 14 [32,64,2,13,22,6,11,25,7,18,3,17,19,10]),(50,(0,0)))],((((((((((((((True∧True)∧True)∧True)∧True)∧(0≤(m:Int)))∧True)∧True)∧True)∧True)∧True)∧(0≤(IntKind.i64.wrap (32 - (m:Int)))))∧True)∧((wA .i64 14 [32,64,2,13,22,6,11,25,7,18,3,17,19,10])=qC2))∧True),[]⟩):=by kernel_rfl
theorem dri2_r (x m:Int)   (q0:(0≤(m:Int))) (q1:(0≤(IntKind.i64.wrap (32 - (m:Int)))))  :Runs Tryd.prog (cAt [] (bdy Tryd.f60)) ⟨dri2_a x m,[],c0,ch0⟩ (fun e s=>e= .ret∧∃ c ch,s=⟨dri2_b x m,[((wA .i64 14 [32,64,2,13,22,6,11,25,7,18,3,17,19,10]),(50,(0,0)))],c,ch⟩):=by
  refine(runs_ev mixed [] (dri2_0 x m ) (tt1 ⟨(tt1 ⟨(tt5 ⟨(tt4 trivial),q0⟩),q1⟩),rfl⟩)).mono ?_
  rintro e s ⟨rfl,rfl⟩
  exact⟨rfl,_,_,rfl⟩
def rg2 (x m:Int):Int:=(cu2 (IntKind.u64.wrap ((x / 2 ^ (min (Int.toNat (m:Int)) 64))+(IntKind.u64.wrap (x*2 ^ (min (Int.toNat (IntKind.i64.wrap (32 - (m:Int)))) 64))))))
theorem Drig2_c (x m:Int) (h1:0≤m) (h2:m≤32):Pure Tryd.prog 60 #[.agg qC2,.int .u64 x,.int .i64 m] (.int .u64 (rg2 x m)):=by
  refine pure_runs (E:=yty.en tabDa2) Tryd.func60 (c:=bdy Tryd.f60) (by kernel_rfl) (args:= [.agg qC2,.int .u64 x,.int .i64 m]) rfl (K:=fun e s=>e= .ret∧resS (yty.en tabDa2) s Tryd.f60.results.toList=some [.int .u64 (rg2 x m)]) ?_ (fun e s h=>⟨h.1,_,h.2,rfl⟩)
  refine(dri2_r x m h1 (by rw[IntKind.wrap_i64];omega)).mono ?_
  rintro e s ⟨rfl,c,ch,hs⟩
  subst hs
  exact⟨rfl,by kernel_rfl⟩
def pdRi2 : Entry Tryd.prog where
  f:=60
  g:=fun _ xs=>match xs with| [.agg a,.int .u64 x,.int .i64 m]=>some (.int .u64 (rg2 x m),(a=qC2∧0≤m∧m≤32))|_=>none
  ok := fun _ xs u c e hc w β _ _ => by
    split at e
    · simp only [Option.some.injEq, Prod.mk.injEq] at e
      obtain⟨rfl,rfl⟩:=e
      obtain⟨rfl,h1,h2⟩:=hc
      exact Drig2_c _ _ h1 h2 w
    · cases e
  call:=call_of Tryd.func60 (by kernel_rfl) (by kernel_rfl)
def tabDb2:List (Entry Tryd.prog):=pdRi2 :: tabDa2
def dmx20_h (i:Nat):Hn:=if i=1 then⟨18,[],[],[],[]⟩ else if i=3 then⟨11,[],[],[],[]⟩ else⟨0,[],[],[],[]⟩
def dmx20_a (x:Int):List Value:= [.agg (wA .i64 14 [32,64,2,13,22,6,11,25,7,18,3,17,19,10]),.int .i64 0,.int .u64 x,undef,undef,undef,undef,undef,undef,undef,undef,undef,undef,undef,undef,undef,undef,undef,undef,undef,undef,undef,undef,undef,undef,undef,undef,undef,undef,undef,undef,undef,undef,undef,undef,undef,undef,undef,undef,undef,undef,undef,undef,undef,undef,undef]
def dmx20_b (x:Int):List Value:= [.agg (wA .i64 14 [32,64,2,13,22,6,11,25,7,18,3,17,19,10]),.int .i64 0,.int .u64 x,.pointer (some ⟨0,0,none⟩),undef,undef,.int .u64 (bits .xor .u64 (bits .xor .u64 (rg2 x 2) (rg2 x 13)) (rg2 x 22)),.int .u64 (bits .xor .u64 (rg2 x 2) (rg2 x 13)),.agg (wA .i64 14 [32,64,2,13,22,6,11,25,7,18,3,17,19,10]),.int .u64 x,.int .i64 0,.pointer (some ⟨0,2,none⟩),.pointer (some ⟨0,2,none⟩),.pointer (some ⟨0,2,none⟩),.int .i64 2,.int .u64 (rg2 x 2),.agg (wA .i64 14 [32,64,2,13,22,6,11,25,7,18,3,17,19,10]),.int .u64 x,.int .i64 0,.pointer (some ⟨0,2,none⟩),.pointer (some ⟨0,2,none⟩),.pointer (some ⟨0,3,none⟩),.int .i64 13,.int .u64 (rg2 x 13),.int .u64 (bits .xor .u64 (rg2 x 2) (rg2 x 13)),.int .i64 0,.bool true,.int .u64 (bits .xor .u64 (rg2 x 2) (rg2 x 13)),.agg (wA .i64 14 [32,64,2,13,22,6,11,25,7,18,3,17,19,10]),.int .u64 x,.int .i64 0,.pointer (some ⟨0,2,none⟩),.pointer (some ⟨0,2,none⟩),.pointer (some ⟨0,4,none⟩),.int .i64 22,.int .u64 (rg2 x 22),.int .u64 (bits .xor .u64 (bits .xor .u64 (rg2 x 2) (rg2 x 13)) (rg2 x 22)),undef,undef,undef,undef,undef,undef,undef,undef,undef]
theorem dmx20_0 (x:Int):evC (yty.en tabDb2) dmx20_h (cAt [] (bdy Tryd.f49)) ⟨dmx20_a x,[],True,[]⟩=some (.ret,⟨dmx20_b x,[((wA .i64 14 [32,64,2,13,22,6,11,25,7,18,3,17,19,10]),(50,(0,0)))],((((((((((((((((((((((((((((((((True∧True)∧True)∧True)∧True)∧True)∧((0:Int)≤0∧(0:Int)<((4:Nat):Int)))∧((0:Int)≤0∧(0:Int)<((3:Nat):Int)))∧True)∧((wA .i64 14 [32,64,2,13,22,6,11,25,7,18,3,17,19,10])=qC2∧(0:Int)≤2∧(2:Int)≤32))∧True)∧True)∧True)∧True)∧((0:Int)≤0∧(0:Int)<((4:Nat):Int)))∧((0:Int)≤1∧(1:Int)<((3:Nat):Int)))∧True)∧((wA .i64 14 [32,64,2,13,22,6,11,25,7,18,3,17,19,10])=qC2∧(0:Int)≤13∧(13:Int)≤32))∧True)∧True)∧True)∧True)∧True)∧True)∧True)∧True)∧True)∧((0:Int)≤0∧(0:Int)<((4:Nat):Int)))∧((0:Int)≤2∧(2:Int)<((3:Nat):Int)))∧True)∧((wA .i64 14 [32,64,2,13,22,6,11,25,7,18,3,17,19,10])=qC2∧(0:Int)≤22∧(22:Int)≤32))∧True)∧True),[]⟩):=by kernel_rfl
theorem dmx20_r (x:Int)    :Runs Tryd.prog (cAt [] (bdy Tryd.f49)) ⟨dmx20_a x,[],c0,ch0⟩ (fun e s=>e= .ret∧∃ c ch,s=⟨dmx20_b x,[((wA .i64 14 [32,64,2,13,22,6,11,25,7,18,3,17,19,10]),(50,(0,0)))],c,ch⟩):=by
  refine(runs_ev mixed [] (dmx20_0 x ) (tt2 ⟨(tt1 ⟨⟨(tt9 ⟨(tt1 ⟨⟨(tt4 ⟨(tt1 ⟨⟨(tt5 trivial),⟨by decide,by decide⟩⟩,⟨by decide,by decide⟩⟩),⟨rfl,by decide,by decide⟩⟩),⟨by decide,by decide⟩⟩,⟨by decide,by decide⟩⟩),⟨rfl,by decide,by decide⟩⟩),⟨by decide,by decide⟩⟩,⟨by decide,by decide⟩⟩),⟨rfl,by decide,by decide⟩⟩)).mono ?_
  rintro e s ⟨rfl,rfl⟩
  exact⟨rfl,_,_,rfl⟩
def dmx21_h (i:Nat):Hn:=if i=1 then⟨18,[],[],[],[]⟩ else if i=3 then⟨11,[],[],[],[]⟩ else⟨0,[],[],[],[]⟩
def dmx21_a (x:Int):List Value:= [.agg (wA .i64 14 [32,64,2,13,22,6,11,25,7,18,3,17,19,10]),.int .i64 1,.int .u64 x,undef,undef,undef,undef,undef,undef,undef,undef,undef,undef,undef,undef,undef,undef,undef,undef,undef,undef,undef,undef,undef,undef,undef,undef,undef,undef,undef,undef,undef,undef,undef,undef,undef,undef,undef,undef,undef,undef,undef,undef,undef,undef,undef]
def dmx21_b (x:Int):List Value:= [.agg (wA .i64 14 [32,64,2,13,22,6,11,25,7,18,3,17,19,10]),.int .i64 1,.int .u64 x,.pointer (some ⟨0,0,none⟩),undef,undef,.int .u64 (bits .xor .u64 (bits .xor .u64 (rg2 x 6) (rg2 x 11)) (rg2 x 25)),.int .u64 (bits .xor .u64 (rg2 x 6) (rg2 x 11)),.agg (wA .i64 14 [32,64,2,13,22,6,11,25,7,18,3,17,19,10]),.int .u64 x,.int .i64 1,.pointer (some ⟨0,2,none⟩),.pointer (some ⟨0,5,none⟩),.pointer (some ⟨0,5,none⟩),.int .i64 6,.int .u64 (rg2 x 6),.agg (wA .i64 14 [32,64,2,13,22,6,11,25,7,18,3,17,19,10]),.int .u64 x,.int .i64 1,.pointer (some ⟨0,2,none⟩),.pointer (some ⟨0,5,none⟩),.pointer (some ⟨0,6,none⟩),.int .i64 11,.int .u64 (rg2 x 11),.int .u64 (bits .xor .u64 (rg2 x 6) (rg2 x 11)),.int .i64 1,.bool true,.int .u64 (bits .xor .u64 (rg2 x 6) (rg2 x 11)),.agg (wA .i64 14 [32,64,2,13,22,6,11,25,7,18,3,17,19,10]),.int .u64 x,.int .i64 1,.pointer (some ⟨0,2,none⟩),.pointer (some ⟨0,5,none⟩),.pointer (some ⟨0,7,none⟩),.int .i64 25,.int .u64 (rg2 x 25),.int .u64 (bits .xor .u64 (bits .xor .u64 (rg2 x 6) (rg2 x 11)) (rg2 x 25)),undef,undef,undef,undef,undef,undef,undef,undef,undef]
theorem dmx21_0 (x:Int):evC (yty.en tabDb2) dmx21_h (cAt [] (bdy Tryd.f49)) ⟨dmx21_a x,[],True,[]⟩=some (.ret,⟨dmx21_b x,[((wA .i64 14 [32,64,2,13,22,6,11,25,7,18,3,17,19,10]),(50,(0,0)))],((((((((((((((((((((((((((((((((True∧True)∧True)∧True)∧True)∧True)∧((0:Int)≤1∧(1:Int)<((4:Nat):Int)))∧((0:Int)≤0∧(0:Int)<((3:Nat):Int)))∧True)∧((wA .i64 14 [32,64,2,13,22,6,11,25,7,18,3,17,19,10])=qC2∧(0:Int)≤6∧(6:Int)≤32))∧True)∧True)∧True)∧True)∧((0:Int)≤1∧(1:Int)<((4:Nat):Int)))∧((0:Int)≤1∧(1:Int)<((3:Nat):Int)))∧True)∧((wA .i64 14 [32,64,2,13,22,6,11,25,7,18,3,17,19,10])=qC2∧(0:Int)≤11∧(11:Int)≤32))∧True)∧True)∧True)∧True)∧True)∧True)∧True)∧True)∧True)∧((0:Int)≤1∧(1:Int)<((4:Nat):Int)))∧((0:Int)≤2∧(2:Int)<((3:Nat):Int)))∧True)∧((wA .i64 14 [32,64,2,13,22,6,11,25,7,18,3,17,19,10])=qC2∧(0:Int)≤25∧(25:Int)≤32))∧True)∧True),[]⟩):=by kernel_rfl
theorem dmx21_r (x:Int)    :Runs Tryd.prog (cAt [] (bdy Tryd.f49)) ⟨dmx21_a x,[],c0,ch0⟩ (fun e s=>e= .ret∧∃ c ch,s=⟨dmx21_b x,[((wA .i64 14 [32,64,2,13,22,6,11,25,7,18,3,17,19,10]),(50,(0,0)))],c,ch⟩):=by
  refine(runs_ev mixed [] (dmx21_0 x ) (tt2 ⟨(tt1 ⟨⟨(tt9 ⟨(tt1 ⟨⟨(tt4 ⟨(tt1 ⟨⟨(tt5 trivial),⟨by decide,by decide⟩⟩,⟨by decide,by decide⟩⟩),⟨rfl,by decide,by decide⟩⟩),⟨by decide,by decide⟩⟩,⟨by decide,by decide⟩⟩),⟨rfl,by decide,by decide⟩⟩),⟨by decide,by decide⟩⟩,⟨by decide,by decide⟩⟩),⟨rfl,by decide,by decide⟩⟩)).mono ?_
  rintro e s ⟨rfl,rfl⟩
  exact⟨rfl,_,_,rfl⟩
def dmx22_h (i:Nat):Hn:=if i=1 then⟨18,[],[],[],[]⟩ else if i=3 then⟨11,[],[],[],[]⟩ else⟨0,[],[],[],[]⟩
def dmx22_a (x:Int):List Value:= [.agg (wA .i64 14 [32,64,2,13,22,6,11,25,7,18,3,17,19,10]),.int .i64 2,.int .u64 x,undef,undef,undef,undef,undef,undef,undef,undef,undef,undef,undef,undef,undef,undef,undef,undef,undef,undef,undef,undef,undef,undef,undef,undef,undef,undef,undef,undef,undef,undef,undef,undef,undef,undef,undef,undef,undef,undef,undef,undef,undef,undef,undef]
def dmx22_b (x:Int):List Value:= [.agg (wA .i64 14 [32,64,2,13,22,6,11,25,7,18,3,17,19,10]),.int .i64 2,.int .u64 x,.pointer (some ⟨0,0,none⟩),undef,undef,.int .u64 (bits .xor .u64 (bits .xor .u64 (rg2 x 7) (rg2 x 18)) (x / 2 ^ (3))),.int .u64 (bits .xor .u64 (rg2 x 7) (rg2 x 18)),.agg (wA .i64 14 [32,64,2,13,22,6,11,25,7,18,3,17,19,10]),.int .u64 x,.int .i64 2,.pointer (some ⟨0,2,none⟩),.pointer (some ⟨0,8,none⟩),.pointer (some ⟨0,8,none⟩),.int .i64 7,.int .u64 (rg2 x 7),.agg (wA .i64 14 [32,64,2,13,22,6,11,25,7,18,3,17,19,10]),.int .u64 x,.int .i64 2,.pointer (some ⟨0,2,none⟩),.pointer (some ⟨0,8,none⟩),.pointer (some ⟨0,9,none⟩),.int .i64 18,.int .u64 (rg2 x 18),.int .u64 (bits .xor .u64 (rg2 x 7) (rg2 x 18)),.int .i64 2,.bool false,undef,undef,undef,undef,undef,undef,undef,undef,undef,undef,.int .u64 (bits .xor .u64 (rg2 x 7) (rg2 x 18)),.int .u64 x,.int .i64 2,.pointer (some ⟨0,2,none⟩),.pointer (some ⟨0,8,none⟩),.pointer (some ⟨0,10,none⟩),.int .i64 3,.int .u64 (x / 2 ^ (3)),.int .u64 (bits .xor .u64 (bits .xor .u64 (rg2 x 7) (rg2 x 18)) (x / 2 ^ (3)))]
theorem dmx22_0 (x:Int):evC (yty.en tabDb2) dmx22_h (cAt [] (bdy Tryd.f49)) ⟨dmx22_a x,[],True,[]⟩=some (.ret,⟨dmx22_b x,[((wA .i64 14 [32,64,2,13,22,6,11,25,7,18,3,17,19,10]),(50,(0,0)))],(((((((((((((((((((((((((((((((True∧True)∧True)∧True)∧True)∧True)∧((0:Int)≤2∧(2:Int)<((4:Nat):Int)))∧((0:Int)≤0∧(0:Int)<((3:Nat):Int)))∧True)∧((wA .i64 14 [32,64,2,13,22,6,11,25,7,18,3,17,19,10])=qC2∧(0:Int)≤7∧(7:Int)≤32))∧True)∧True)∧True)∧True)∧((0:Int)≤2∧(2:Int)<((4:Nat):Int)))∧((0:Int)≤1∧(1:Int)<((3:Nat):Int)))∧True)∧((wA .i64 14 [32,64,2,13,22,6,11,25,7,18,3,17,19,10])=qC2∧(0:Int)≤18∧(18:Int)≤32))∧True)∧True)∧True)∧True)∧True)∧True)∧True)∧True)∧((0:Int)≤2∧(2:Int)<((4:Nat):Int)))∧((0:Int)≤2∧(2:Int)<((3:Nat):Int)))∧True)∧((0:Int)≤3))∧True)∧True),[]⟩):=by kernel_rfl
theorem dmx22_r (x:Int)    :Runs Tryd.prog (cAt [] (bdy Tryd.f49)) ⟨dmx22_a x,[],c0,ch0⟩ (fun e s=>e= .ret∧∃ c ch,s=⟨dmx22_b x,[((wA .i64 14 [32,64,2,13,22,6,11,25,7,18,3,17,19,10]),(50,(0,0)))],c,ch⟩):=by
  refine(runs_ev mixed [] (dmx22_0 x ) (tt2 ⟨(tt1 ⟨⟨(tt8 ⟨(tt1 ⟨⟨(tt4 ⟨(tt1 ⟨⟨(tt5 trivial),⟨by decide,by decide⟩⟩,⟨by decide,by decide⟩⟩),⟨rfl,by decide,by decide⟩⟩),⟨by decide,by decide⟩⟩,⟨by decide,by decide⟩⟩),⟨rfl,by decide,by decide⟩⟩),⟨by decide,by decide⟩⟩,⟨by decide,by decide⟩⟩),(by decide)⟩)).mono ?_
  rintro e s ⟨rfl,rfl⟩
  exact⟨rfl,_,_,rfl⟩
def dmx23_h (i:Nat):Hn:=if i=1 then⟨18,[],[],[],[]⟩ else if i=3 then⟨11,[],[],[],[]⟩ else⟨0,[],[],[],[]⟩
def dmx23_a (x:Int):List Value:= [.agg (wA .i64 14 [32,64,2,13,22,6,11,25,7,18,3,17,19,10]),.int .i64 3,.int .u64 x,undef,undef,undef,undef,undef,undef,undef,undef,undef,undef,undef,undef,undef,undef,undef,undef,undef,undef,undef,undef,undef,undef,undef,undef,undef,undef,undef,undef,undef,undef,undef,undef,undef,undef,undef,undef,undef,undef,undef,undef,undef,undef,undef]
def dmx23_b (x:Int):List Value:= [.agg (wA .i64 14 [32,64,2,13,22,6,11,25,7,18,3,17,19,10]),.int .i64 3,.int .u64 x,.pointer (some ⟨0,0,none⟩),undef,undef,.int .u64 (bits .xor .u64 (bits .xor .u64 (rg2 x 17) (rg2 x 19)) (x / 2 ^ (10))),.int .u64 (bits .xor .u64 (rg2 x 17) (rg2 x 19)),.agg (wA .i64 14 [32,64,2,13,22,6,11,25,7,18,3,17,19,10]),.int .u64 x,.int .i64 3,.pointer (some ⟨0,2,none⟩),.pointer (some ⟨0,11,none⟩),.pointer (some ⟨0,11,none⟩),.int .i64 17,.int .u64 (rg2 x 17),.agg (wA .i64 14 [32,64,2,13,22,6,11,25,7,18,3,17,19,10]),.int .u64 x,.int .i64 3,.pointer (some ⟨0,2,none⟩),.pointer (some ⟨0,11,none⟩),.pointer (some ⟨0,12,none⟩),.int .i64 19,.int .u64 (rg2 x 19),.int .u64 (bits .xor .u64 (rg2 x 17) (rg2 x 19)),.int .i64 3,.bool false,undef,undef,undef,undef,undef,undef,undef,undef,undef,undef,.int .u64 (bits .xor .u64 (rg2 x 17) (rg2 x 19)),.int .u64 x,.int .i64 3,.pointer (some ⟨0,2,none⟩),.pointer (some ⟨0,11,none⟩),.pointer (some ⟨0,13,none⟩),.int .i64 10,.int .u64 (x / 2 ^ (10)),.int .u64 (bits .xor .u64 (bits .xor .u64 (rg2 x 17) (rg2 x 19)) (x / 2 ^ (10)))]
theorem dmx23_0 (x:Int):evC (yty.en tabDb2) dmx23_h (cAt [] (bdy Tryd.f49)) ⟨dmx23_a x,[],True,[]⟩=some (.ret,⟨dmx23_b x,[((wA .i64 14 [32,64,2,13,22,6,11,25,7,18,3,17,19,10]),(50,(0,0)))],(((((((((((((((((((((((((((((((True∧True)∧True)∧True)∧True)∧True)∧((0:Int)≤3∧(3:Int)<((4:Nat):Int)))∧((0:Int)≤0∧(0:Int)<((3:Nat):Int)))∧True)∧((wA .i64 14 [32,64,2,13,22,6,11,25,7,18,3,17,19,10])=qC2∧(0:Int)≤17∧(17:Int)≤32))∧True)∧True)∧True)∧True)∧((0:Int)≤3∧(3:Int)<((4:Nat):Int)))∧((0:Int)≤1∧(1:Int)<((3:Nat):Int)))∧True)∧((wA .i64 14 [32,64,2,13,22,6,11,25,7,18,3,17,19,10])=qC2∧(0:Int)≤19∧(19:Int)≤32))∧True)∧True)∧True)∧True)∧True)∧True)∧True)∧True)∧((0:Int)≤3∧(3:Int)<((4:Nat):Int)))∧((0:Int)≤2∧(2:Int)<((3:Nat):Int)))∧True)∧((0:Int)≤10))∧True)∧True),[]⟩):=by kernel_rfl
theorem dmx23_r (x:Int)    :Runs Tryd.prog (cAt [] (bdy Tryd.f49)) ⟨dmx23_a x,[],c0,ch0⟩ (fun e s=>e= .ret∧∃ c ch,s=⟨dmx23_b x,[((wA .i64 14 [32,64,2,13,22,6,11,25,7,18,3,17,19,10]),(50,(0,0)))],c,ch⟩):=by
  refine(runs_ev mixed [] (dmx23_0 x ) (tt2 ⟨(tt1 ⟨⟨(tt8 ⟨(tt1 ⟨⟨(tt4 ⟨(tt1 ⟨⟨(tt5 trivial),⟨by decide,by decide⟩⟩,⟨by decide,by decide⟩⟩),⟨rfl,by decide,by decide⟩⟩),⟨by decide,by decide⟩⟩,⟨by decide,by decide⟩⟩),⟨rfl,by decide,by decide⟩⟩),⟨by decide,by decide⟩⟩,⟨by decide,by decide⟩⟩),(by decide)⟩)).mono ?_
  rintro e s ⟨rfl,rfl⟩
  exact⟨rfl,_,_,rfl⟩
def dmx2:Nat→Int→Int
  |0,x=>(bits .xor .u64 (bits .xor .u64 (rg2 x 2) (rg2 x 13)) (rg2 x 22))
  |1,x=>(bits .xor .u64 (bits .xor .u64 (rg2 x 6) (rg2 x 11)) (rg2 x 25))
  |2,x=>(bits .xor .u64 (bits .xor .u64 (rg2 x 7) (rg2 x 18)) (x / 2 ^ (3)))
  |_,x=>(bits .xor .u64 (bits .xor .u64 (rg2 x 17) (rg2 x 19)) (x / 2 ^ (10)))
theorem Dmix20 (x:Int):Pure Tryd.prog 49 #[.agg qC2,.int .i64 0,.int .u64 x] (.int .u64 (dmx2 0 x)):=by
  refine pure_runs (E:=yty.en tabDb2) Tryd.func49 (c:=bdy Tryd.f49) (by kernel_rfl) (args:= [.agg qC2,.int .i64 0,.int .u64 x]) rfl (K:=fun e s=>e= .ret∧resS (yty.en tabDb2) s Tryd.f49.results.toList=some [.int .u64 (dmx2 0 x)]) ?_ (fun e s h=>⟨h.1,_,h.2,rfl⟩)
  refine(dmx20_r x).mono ?_
  rintro e s ⟨rfl,c,ch,hs⟩
  subst hs
  exact⟨rfl,by kernel_rfl⟩
theorem Dmix21 (x:Int):Pure Tryd.prog 49 #[.agg qC2,.int .i64 1,.int .u64 x] (.int .u64 (dmx2 1 x)):=by
  refine pure_runs (E:=yty.en tabDb2) Tryd.func49 (c:=bdy Tryd.f49) (by kernel_rfl) (args:= [.agg qC2,.int .i64 1,.int .u64 x]) rfl (K:=fun e s=>e= .ret∧resS (yty.en tabDb2) s Tryd.f49.results.toList=some [.int .u64 (dmx2 1 x)]) ?_ (fun e s h=>⟨h.1,_,h.2,rfl⟩)
  refine(dmx21_r x).mono ?_
  rintro e s ⟨rfl,c,ch,hs⟩
  subst hs
  exact⟨rfl,by kernel_rfl⟩
theorem Dmix22 (x:Int):Pure Tryd.prog 49 #[.agg qC2,.int .i64 2,.int .u64 x] (.int .u64 (dmx2 2 x)):=by
  refine pure_runs (E:=yty.en tabDb2) Tryd.func49 (c:=bdy Tryd.f49) (by kernel_rfl) (args:= [.agg qC2,.int .i64 2,.int .u64 x]) rfl (K:=fun e s=>e= .ret∧resS (yty.en tabDb2) s Tryd.f49.results.toList=some [.int .u64 (dmx2 2 x)]) ?_ (fun e s h=>⟨h.1,_,h.2,rfl⟩)
  refine(dmx22_r x).mono ?_
  rintro e s ⟨rfl,c,ch,hs⟩
  subst hs
  exact⟨rfl,by kernel_rfl⟩
theorem Dmix23 (x:Int):Pure Tryd.prog 49 #[.agg qC2,.int .i64 3,.int .u64 x] (.int .u64 (dmx2 3 x)):=by
  refine pure_runs (E:=yty.en tabDb2) Tryd.func49 (c:=bdy Tryd.f49) (by kernel_rfl) (args:= [.agg qC2,.int .i64 3,.int .u64 x]) rfl (K:=fun e s=>e= .ret∧resS (yty.en tabDb2) s Tryd.f49.results.toList=some [.int .u64 (dmx2 3 x)]) ?_ (fun e s h=>⟨h.1,_,h.2,rfl⟩)
  refine(dmx23_r x).mono ?_
  rintro e s ⟨rfl,c,ch,hs⟩
  subst hs
  exact⟨rfl,by kernel_rfl⟩
def pdMx2 : Entry Tryd.prog where
  f:=49
  g:=fun _ xs=>match xs with| [.agg a,.int .i64 i,.int .u64 x]=>some (.int .u64 (dmx2 i.toNat x),(a=qC2∧0≤i∧i<4))|_=>none
  ok := fun _ xs u c e hc w β _ _ => by
    split at e
    · rename_i a i x
      simp only[Option.some.injEq,Prod.mk.injEq] at e
      obtain⟨rfl,rfl⟩:=e
      obtain⟨rfl,h1,h2⟩:=hc
      obtain rfl|rfl|rfl|rfl:i=0∨i=1∨i=2∨i=3:=by omega
      · exact Dmix20 _ w
      · exact Dmix21 _ w
      · exact Dmix22 _ w
      · exact Dmix23 _ w
    · cases e
  call:=call_of Tryd.func49 (by kernel_rfl) (by kernel_rfl)
def tabD2:List (Entry Tryd.prog):=pdMx2 :: tabDb2
def cu5 (x:Int):Int:=IntKind.u64.wrap (x*2 ^ (0)) / 2 ^ (0)
def rg5 (x m:Int):Int:=(cu5 (IntKind.u64.wrap ((x / 2 ^ (min (Int.toNat (m:Int)) 64))+(IntKind.u64.wrap (x*2 ^ (min (Int.toNat (IntKind.i64.wrap (64 - (m:Int)))) 64))))))
def dmx5:Nat→Int→Int
  |0,x=>(bits .xor .u64 (bits .xor .u64 (rg5 x 28) (rg5 x 34)) (rg5 x 39))
  |1,x=>(bits .xor .u64 (bits .xor .u64 (rg5 x 14) (rg5 x 18)) (rg5 x 41))
  |2,x=>(bits .xor .u64 (bits .xor .u64 (rg5 x 1) (rg5 x 8)) (x / 2 ^ (7)))
  |_,x=>(bits .xor .u64 (bits .xor .u64 (rg5 x 19) (rg5 x 61)) (x / 2 ^ (6)))
end Go.Proofs.YtcfnjcacdmkgbaaDoor
