import Derived.Test.YtcfnjcacdmkgbaaDoorZMEndsShD1
set_option linter.unusedSimpArgs false
set_option linter.unusedVariables false
/-! The beginning, a state as bytes. -/
namespace Go.Proofs.YtcfnjcacdmkgbaaDoor
open Go.RowKit Go.Ev
variable {c0:Prop} {ch0:List (Option Value)}
def andL:List Prop→Prop→Prop
  | [],q=>q
  |p :: r,q=>andL r (q∧p)
theorem andL_of:∀ {L:List Prop} {q:Prop},q→(∀ p ∈ L,p)→andL L q
  | [],_,h,_=>h
  |p :: r,_,h,hL=>andL_of (L:=r) ⟨h,hL p (List.mem_cons_self ..)⟩ (fun x hx=>hL x (List.mem_cons_of_mem _ hx))
def andR:List Prop→Prop
  | []=>True
  |p :: r=>p∧andR r
theorem andR_of:∀ {L:List Prop},andR L→∀ p ∈ L,p
  | [],_,_,hp=>nomatch hp
  | q :: r, h, p, hp => by
    rcases List.mem_cons.1 hp with rfl|hp
    · exact h.1
    · exact andR_of h.2 p hp
theorem andL_mem {n:Nat} {f:Nat→List Prop} (h:∀ i,i<n→∀ p ∈ f i,p):∀ p ∈ ((List.range n).flatMap f).drop 2 ++ [True,True,True,True,True],p:=fun p hp=>by
  rcases List.mem_append.1 hp with hp|hp
  · obtain ⟨i, hi, hm⟩ := List.mem_flatMap.1 (List.mem_of_mem_drop hp)
    exact h i (List.mem_range.1 hi) p hm
  · simp at hp
    exact hp
def out2 (S:List Int):List Int:=(List.range 32).map fun i=>IntKind.u8.wrap (S.getD (i / 4) 0 / 2 ^ (24 - i%4*8))
def by2_F (S:List Int):Value:= .agg (wA .u8 32 (out2 S))
def by2_i (i:Nat):List Prop:= [True,True,True,True,True,True,True,True,((4:Int)≠0),((0:Int)≤((i / 4:Nat):Int)∧((i / 4:Nat):Int)<((8:Nat):Int)),True,True,((4:Int)≠0),True,True,((0:Int)≤((24 - i%4*8:Nat):Int)),True,((0:Int)≤(i:Int)∧(i:Int)<((32:Nat):Int))]
theorem by2_j:∀ i,i<32→∀ p ∈ by2_i i,p:=fun i hi=>andR_of (by simp only[by2_i,andR];simp;try omega)
def by2_A (S:List Int):Array Value:=match by2_F S with| .agg a=>a|_=> #[]
def by2_h (i:Nat):Hn:=⟨0,[],[],[],[]⟩
set_option maxRecDepth 100000 in
theorem by2_0 (S:List Int):evF (yty.en tab0) by2_h Tryd.f30 [.agg (wA .u32 8 S)] []=some (by2_F S,(andL (((List.range 32).flatMap by2_i).drop 2 ++ [True,True,True,True,True]) True∧((by2_A S).all (fun v=>v.oneCell')=true))):=by kernel_rfl
set_option maxRecDepth 100000 in
set_option maxHeartbeats 4000000 in
theorem by2_p (S:List Int):Pure Tryd.prog 30 #[.agg (wA .u32 8 S)] (by2_F S):=by
  exact pure_of mixed Tryd.func30 _ (by2_0 S) rfl ⟨andL_of trivial (andL_mem by2_j),by kernel_rfl⟩
theorem Bytes2_c (S:List Int):Pure Tryd.prog 30 #[.agg (wA .u32 8 S)] (.agg (wA .u8 32 (out2 S))):=by
  have h:=by2_p S
  have e:by2_F S= .agg (wA .u8 32 (out2 S)):=by kernel_rfl
  rwa[e] at h
def bg2:List Int:= [1779033703,3144134277,1013904242,2773480762,1359893119,2600822924,528734635,1541459225]
def bn2_h (i:Nat):Hn:=⟨0,[],[],[],[]⟩
theorem bn2_0:evF (yty.en tab0) bn2_h Tryd.f27 [] []=some (.agg (#[.int .u32 1779033703,.int .u32 3144134277,.int .u32 1013904242,.int .u32 2773480762,.int .u32 1359893119,.int .u32 2600822924,.int .u32 528734635,.int .u32 1541459225]:Array Value),((True∧True)∧((#[.int .u32 1779033703,.int .u32 3144134277,.int .u32 1013904242,.int .u32 2773480762,.int .u32 1359893119,.int .u32 2600822924,.int .u32 528734635,.int .u32 1541459225]:Array Value).all (fun v=>v.oneCell')=true))):=by kernel_rfl
def bn2_F:Value:= .agg (#[.int .u32 1779033703,.int .u32 3144134277,.int .u32 1013904242,.int .u32 2773480762,.int .u32 1359893119,.int .u32 2600822924,.int .u32 528734635,.int .u32 1541459225]:Array Value)
set_option maxHeartbeats 4000000 in
theorem bn2_p:Pure Tryd.prog 27 #[] (bn2_F):=by
  unfold bn2_F
  exact pure_of mixed Tryd.func27 _ (bn2_0) rfl ⟨(tt1 trivial),(by kernel_rfl)⟩
theorem Begin2_c:Pure Tryd.prog 27 #[] (.agg (wA .u32 8 bg2)):=by
  have h:=bn2_p
  have e:bn2_F= .agg (wA .u32 8 bg2):=by kernel_rfl
  rwa[e] at h
def pBn2:Entry Tryd.prog:=ent0 Tryd.func27 (by kernel_rfl) (by kernel_rfl) (.agg (wA .u32 8 bg2)) Begin2_c
def pBy2 : Entry Tryd.prog where
  f:=30
  g:=fun _ xs=>match xs with| [.agg st]=>some (.agg (wA .u8 32 (out2 (dL st))),st=wA .u32 8 (dL st))|_=>none
  ok := fun _ xs u c e hc w β _ _ => by
    split at e
    · rename_i st
      simp only[Option.some.injEq,Prod.mk.injEq] at e
      obtain⟨rfl,rfl⟩:=e
      have:=Bytes2_c (dL st) w
      rw[← hc] at this
      exact this
    · cases e
  call:=call_of Tryd.func30 (by kernel_rfl) (by kernel_rfl)
def out5 (S:List Int):List Int:=(List.range 64).map fun i=>IntKind.u8.wrap (S.getD (i / 8) 0 / 2 ^ (56 - i%8*8))
def by5_F (S:List Int):Value:= .agg (wA .u8 64 (out5 S))
def by5_i (i:Nat):List Prop:= [True,True,True,True,True,True,True,True,((8:Int)≠0),((0:Int)≤((i / 8:Nat):Int)∧((i / 8:Nat):Int)<((8:Nat):Int)),True,True,((8:Int)≠0),True,True,((0:Int)≤((56 - i%8*8:Nat):Int)),True,((0:Int)≤(i:Int)∧(i:Int)<((64:Nat):Int))]
theorem by5_j:∀ i,i<64→∀ p ∈ by5_i i,p:=fun i hi=>andR_of (by simp only[by5_i,andR];simp;try omega)
def by5_A (S:List Int):Array Value:=match by5_F S with| .agg a=>a|_=> #[]
def by5_h (i:Nat):Hn:=⟨0,[],[],[],[]⟩
set_option maxRecDepth 100000 in
theorem by5_0 (S:List Int):evF (yty.en tab0) by5_h Tryd.f42 [.agg (wA .u64 8 S)] []=some (by5_F S,(andL (((List.range 64).flatMap by5_i).drop 2 ++ [True,True,True,True,True]) True∧((by5_A S).all (fun v=>v.oneCell')=true))):=by kernel_rfl
set_option maxRecDepth 100000 in
set_option maxHeartbeats 4000000 in
theorem by5_p (S:List Int):Pure Tryd.prog 42 #[.agg (wA .u64 8 S)] (by5_F S):=by
  exact pure_of mixed Tryd.func42 _ (by5_0 S) rfl ⟨andL_of trivial (andL_mem by5_j),by kernel_rfl⟩
theorem Bytes5_c (S:List Int):Pure Tryd.prog 42 #[.agg (wA .u64 8 S)] (.agg (wA .u8 64 (out5 S))):=by
  have h:=by5_p S
  have e:by5_F S= .agg (wA .u8 64 (out5 S)):=by kernel_rfl
  rwa[e] at h
def bg5:List Int:= [7640891576956012808,13503953896175478587,4354685564936845355,11912009170470909681,5840696475078001361,11170449401992604703,2270897969802886507,6620516959819538809]
def bn5_h (i:Nat):Hn:=⟨0,[],[],[],[]⟩
theorem bn5_0:evF (yty.en tab0) bn5_h Tryd.f40 [] []=some (.agg (#[.int .u64 7640891576956012808,.int .u64 13503953896175478587,.int .u64 4354685564936845355,.int .u64 11912009170470909681,.int .u64 5840696475078001361,.int .u64 11170449401992604703,.int .u64 2270897969802886507,.int .u64 6620516959819538809]:Array Value),((True∧True)∧((#[.int .u64 7640891576956012808,.int .u64 13503953896175478587,.int .u64 4354685564936845355,.int .u64 11912009170470909681,.int .u64 5840696475078001361,.int .u64 11170449401992604703,.int .u64 2270897969802886507,.int .u64 6620516959819538809]:Array Value).all (fun v=>v.oneCell')=true))):=by kernel_rfl
def bn5_F:Value:= .agg (#[.int .u64 7640891576956012808,.int .u64 13503953896175478587,.int .u64 4354685564936845355,.int .u64 11912009170470909681,.int .u64 5840696475078001361,.int .u64 11170449401992604703,.int .u64 2270897969802886507,.int .u64 6620516959819538809]:Array Value)
set_option maxHeartbeats 4000000 in
theorem bn5_p:Pure Tryd.prog 40 #[] (bn5_F):=by
  unfold bn5_F
  exact pure_of mixed Tryd.func40 _ (bn5_0) rfl ⟨(tt1 trivial),(by kernel_rfl)⟩
theorem Begin5_c:Pure Tryd.prog 40 #[] (.agg (wA .u64 8 bg5)):=by
  have h:=bn5_p
  have e:bn5_F= .agg (wA .u64 8 bg5):=by kernel_rfl
  rwa[e] at h
def pBn5:Entry Tryd.prog:=ent0 Tryd.func40 (by kernel_rfl) (by kernel_rfl) (.agg (wA .u64 8 bg5)) Begin5_c
def pBy5 : Entry Tryd.prog where
  f:=42
  g:=fun _ xs=>match xs with| [.agg st]=>some (.agg (wA .u8 64 (out5 (dL st))),st=wA .u64 8 (dL st))|_=>none
  ok := fun _ xs u c e hc w β _ _ => by
    split at e
    · rename_i st
      simp only[Option.some.injEq,Prod.mk.injEq] at e
      obtain⟨rfl,rfl⟩:=e
      have:=Bytes5_c (dL st) w
      rw[← hc] at this
      exact this
    · cases e
  call:=call_of Tryd.func42 (by kernel_rfl) (by kernel_rfl)
def tabS7:List (Entry Tryd.prog):=pBn2 :: pBn5 :: pBy2 :: pBy5 :: tabS6
end Go.Proofs.YtcfnjcacdmkgbaaDoor

set_option linter.unusedSimpArgs false
set_option linter.unusedVariables false
/-! What comes behind the last whole block. -/
namespace Go.Proofs.YtcfnjcacdmkgbaaDoor
open Go.RowKit Go.Ev
variable {c0:Prop} {ch0:List (Option Value)}
def bL (a:Array Value) (p r:Nat):List Int:=(List.range r).map fun j=>iat a (p+j)
def en2L_h (i:Nat):Hn:=⟨0,[],[],[],[]⟩
def en2L_a (a:Array Value) (t:Tq) (o l cp:Nat):List Value:= [.slice (some ⟨0,o,none⟩) l cp,.int .i64 64,.int .i64 8,undef,undef,undef,undef,undef,undef,undef,undef,undef,undef,undef,undef,undef,undef,undef,undef,undef,undef,undef,undef,undef,undef,undef,undef,undef,undef,undef,undef,undef,undef,undef,undef,undef,undef,undef,undef,undef,undef,undef,undef,undef,undef,undef,undef,undef,undef,undef,undef,undef,undef,undef,undef,undef,undef,undef]
def en2L_b (a:Array Value) (t:Tq) (o l cp:Nat):List Value:= [.slice (some ⟨0,o,none⟩) l cp,.int .i64 64,.int .i64 8,undef,undef,undef,.slice (some ⟨1,0,none⟩) 128 128,.int .i64 ((l%64:Nat):Int),.int .i64 128,.slice (some ⟨1,0,none⟩) 128 128,.int .u64 ((8*l:Nat):Int),.int .i64 7,.slice (some ⟨0,o,none⟩) l cp,.int .i64 (l:Int),.int .i64 64,.int .i64 ((l%64:Nat):Int),.int .i64 64,.int .i64 ((l%64:Nat):Int),.int .i64 ((l%64+1:Nat):Int),.int .i64 8,.int .i64 ((l%64+9:Nat):Int),.int .i64 64,.bool true,.int .i64 64,.int .i64 128,.int .i64 128,.slice (some ⟨1,0,none⟩) 128 128,.slice (some ⟨1,0,none⟩) 128 128,.slice (some ⟨0,o,none⟩) l cp,.slice (some ⟨0,o,none⟩) l cp,.int .i64 (l:Int),.int .i64 ((l%64:Nat):Int),.int .i64 ((l - l%64:Nat):Int),.slice (some ⟨0,(if cp=Int.toNat ((l - l%64:Nat):Int) then o else o+(Int.toNat ((l - l%64:Nat):Int))*1),none⟩) (l - Int.toNat ((l - l%64:Nat):Int)) (cp - Int.toNat ((l - l%64:Nat):Int)),.int .i64 ((Nat.min (l - Int.toNat ((l - l%64:Nat):Int)) 128:Nat):Int),.slice (some ⟨1,0,none⟩) 128 128,.int .i64 ((l%64:Nat):Int),.pointer (some ⟨1,0+Int.toNat ((l%64:Nat):Int)*1,none⟩),.slice (some ⟨0,o,none⟩) l cp,.int .i64 (l:Int),.int .u64 (l:Int),.int .u64 ((8*l:Nat):Int),.int .i64 8,.bool false,.int .i64 7,.slice (some ⟨1,0,none⟩) 128 128,.int .i64 128,.int .i64 127,.int .i64 7,.int .i64 120,.int .u64 ((8*l:Nat):Int),.int .i64 7,.int .i64 56,.int .u64 (((8*l:Nat):Int) / 2 ^ (56)),.int .u8 (IntKind.u8.wrap (((8*l:Nat):Int) / 2 ^ (56))),.pointer (some ⟨1,120,none⟩),.int .i64 8,.slice (some ⟨1,0,none⟩) 128 128]
set_option maxRecDepth 100000 in
theorem en2L_0 (a:Array Value) (t:Tq) (o l cp:Nat):evC (yty.enf tabS7 1) en2L_h (cAt [] (bdy Tryd.f29)) ⟨en2L_a a t o l cp,[(a,t)],True,[some (.int .i64 ((l%64:Nat):Int)),some (.int .i64 ((l%64+1:Nat):Int)),some (.int .i64 ((l%64+9:Nat):Int)),some (.bool true),none,some (.int .i64 ((l - l%64:Nat):Int)),some (.agg (wA .u8 128 (bL a (if cp=Int.toNat ((l - l%64:Nat):Int) then o else o+(Int.toNat ((l - l%64:Nat):Int))*1) (l%64)))),some (.agg (wA .u8 128 ((bL a (if cp=Int.toNat ((l - l%64:Nat):Int) then o else o+(Int.toNat ((l - l%64:Nat):Int))*1) (l%64)) ++ [128]))),some (.int .u64 (l:Int)),some (.int .u64 ((8*l:Nat):Int))]⟩=some (.ret,⟨en2L_b a t o l cp,[(a,t),((((((((((wA .u8 128 ((bL a (if cp=Int.toNat ((l - l%64:Nat):Int) then o else o+(Int.toNat ((l - l%64:Nat):Int))*1) (l%64)) ++ [128])).setIfInBounds 127 (.int .u8 (IntKind.u8.wrap (((8*l:Nat):Int) / 2 ^ (0))))).setIfInBounds 126 (.int .u8 (IntKind.u8.wrap (((8*l:Nat):Int) / 2 ^ (8))))).setIfInBounds 125 (.int .u8 (IntKind.u8.wrap (((8*l:Nat):Int) / 2 ^ (16))))).setIfInBounds 124 (.int .u8 (IntKind.u8.wrap (((8*l:Nat):Int) / 2 ^ (24))))).setIfInBounds 123 (.int .u8 (IntKind.u8.wrap (((8*l:Nat):Int) / 2 ^ (32))))).setIfInBounds 122 (.int .u8 (IntKind.u8.wrap (((8*l:Nat):Int) / 2 ^ (40))))).setIfInBounds 121 (.int .u8 (IntKind.u8.wrap (((8*l:Nat):Int) / 2 ^ (48))))).setIfInBounds 120 (.int .u8 (IntKind.u8.wrap (((8*l:Nat):Int) / 2 ^ (56))))),(5,(0,0)))],(((((((((((((((((((((((((((((((((((((((((((((((((((((((((((((((((((((((((((((((((((((((((((((((((((((((((((((((((((((((((((((((((((((((((((((((((((((((((((((((((((((((((((((((((True∧True)∧True)∧True)∧True)∧(((64:Int)≠0)∧(Int.tmod (l:Int) 64)=((l%64:Nat):Int)))∧True)∧True)∧True)∧True)∧(True∧(IntKind.i64.wrap (((l%64:Nat):Int)+1))=((l%64+1:Nat):Int)))∧True)∧(True∧(IntKind.i64.wrap (((l%64+1:Nat):Int)+8))=((l%64+9:Nat):Int)))∧True)∧(True∧(decide (64<((l%64+9:Nat):Int)))=true))∧True)∧True)∧True)∧True)∧((0:Int)≤128∧(128:Int)=128∧1*Int.toNat 128≤281474976710656∧Int.toNat 128≤9223372036854775807))∧True)∧True)∧True)∧True)∧True)∧True)∧(True∧(IntKind.i64.wrap ((l:Int) - ((l%64:Nat):Int)))=((l - l%64:Nat):Int)))∧(((0≤((l - l%64:Nat):Int))∧True)∧Int.toNat ((l - l%64:Nat):Int)≤l∧l≤cp))∧((0+Nat.min (l - Int.toNat ((l - l%64:Nat):Int)) 128≤(wA .u8 128 []).size∧(if cp=Int.toNat ((l - l%64:Nat):Int) then o else o+(Int.toNat ((l - l%64:Nat):Int))*1)+Nat.min (l - Int.toNat ((l - l%64:Nat):Int)) 128≤a.size)∧(a.extract (if cp=Int.toNat ((l - l%64:Nat):Int) then o else o+(Int.toNat ((l - l%64:Nat):Int))*1) ((if cp=Int.toNat ((l - l%64:Nat):Int) then o else o+(Int.toNat ((l - l%64:Nat):Int))*1)+Nat.min (l - Int.toNat ((l - l%64:Nat):Int)) 128)).all (fun v=>v.oneCell')=true∧Calm.splice (wA .u8 128 []) 0 (a.extract (if cp=Int.toNat ((l - l%64:Nat):Int) then o else o+(Int.toNat ((l - l%64:Nat):Int))*1) ((if cp=Int.toNat ((l - l%64:Nat):Int) then o else o+(Int.toNat ((l - l%64:Nat):Int))*1)+Nat.min (l - Int.toNat ((l - l%64:Nat):Int)) 128))=(wA .u8 128 (bL a (if cp=Int.toNat ((l - l%64:Nat):Int) then o else o+(Int.toNat ((l - l%64:Nat):Int))*1) (l%64)))))∧True)∧True)∧((0:Int)≤((l%64:Nat):Int)∧(((l%64:Nat):Int):Int)<((128:Nat):Int)))∧((0+Int.toNat ((l%64:Nat):Int)*1)<(wA .u8 128 (bL a (if cp=Int.toNat ((l - l%64:Nat):Int) then o else o+(Int.toNat ((l - l%64:Nat):Int))*1) (l%64))).size∧(wA .u8 128 (bL a (if cp=Int.toNat ((l - l%64:Nat):Int) then o else o+(Int.toNat ((l - l%64:Nat):Int))*1) (l%64))).setIfInBounds (0+Int.toNat ((l%64:Nat):Int)*1) (.int .u8 128)=(wA .u8 128 ((bL a (if cp=Int.toNat ((l - l%64:Nat):Int) then o else o+(Int.toNat ((l - l%64:Nat):Int))*1) (l%64)) ++ [128]))))∧True)∧True)∧(True∧(IntKind.u64.wrap (l:Int))=(l:Int)))∧(True∧(IntKind.u64.wrap (8*(l:Int)))=((8*l:Nat):Int)))∧True)∧True)∧True)∧True)∧True)∧True)∧True)∧True)∧True)∧True)∧True)∧True)∧True)∧((0:Int)≤0))∧True)∧((0:Int)≤127∧(127:Int)<((128:Nat):Int)))∧True)∧True)∧True)∧True)∧True)∧True)∧True)∧True)∧True)∧True)∧True)∧True)∧True)∧True)∧((0:Int)≤8))∧True)∧((0:Int)≤126∧(126:Int)<((128:Nat):Int)))∧True)∧True)∧True)∧True)∧True)∧True)∧True)∧True)∧True)∧True)∧True)∧True)∧True)∧True)∧((0:Int)≤16))∧True)∧((0:Int)≤125∧(125:Int)<((128:Nat):Int)))∧True)∧True)∧True)∧True)∧True)∧True)∧True)∧True)∧True)∧True)∧True)∧True)∧True)∧True)∧((0:Int)≤24))∧True)∧((0:Int)≤124∧(124:Int)<((128:Nat):Int)))∧True)∧True)∧True)∧True)∧True)∧True)∧True)∧True)∧True)∧True)∧True)∧True)∧True)∧True)∧((0:Int)≤32))∧True)∧((0:Int)≤123∧(123:Int)<((128:Nat):Int)))∧True)∧True)∧True)∧True)∧True)∧True)∧True)∧True)∧True)∧True)∧True)∧True)∧True)∧True)∧((0:Int)≤40))∧True)∧((0:Int)≤122∧(122:Int)<((128:Nat):Int)))∧True)∧True)∧True)∧True)∧True)∧True)∧True)∧True)∧True)∧True)∧True)∧True)∧True)∧True)∧((0:Int)≤48))∧True)∧((0:Int)≤121∧(121:Int)<((128:Nat):Int)))∧True)∧True)∧True)∧True)∧True)∧True)∧True)∧True)∧True)∧True)∧True)∧True)∧True)∧True)∧((0:Int)≤56))∧True)∧((0:Int)≤120∧(120:Int)<((128:Nat):Int)))∧True)∧True)∧True)∧True)∧True)∧True),[]⟩):=by kernel_rfl
set_option maxRecDepth 100000 in
theorem en2L_r (a:Array Value) (t:Tq) (o l cp:Nat)   (q0:(((64:Int)≠0)∧(Int.tmod (l:Int) 64)=((l%64:Nat):Int))) (q1:(True∧(IntKind.i64.wrap (((l%64:Nat):Int)+1))=((l%64+1:Nat):Int))) (q2:(True∧(IntKind.i64.wrap (((l%64+1:Nat):Int)+8))=((l%64+9:Nat):Int))) (q3:(True∧(IntKind.i64.wrap ((l:Int) - ((l%64:Nat):Int)))=((l - l%64:Nat):Int))) (q4:(((0≤((l - l%64:Nat):Int))∧True)∧Int.toNat ((l - l%64:Nat):Int)≤l∧l≤cp)) (q5:((0+Nat.min (l - Int.toNat ((l - l%64:Nat):Int)) 128≤(wA .u8 128 []).size∧(if cp=Int.toNat ((l - l%64:Nat):Int) then o else o+(Int.toNat ((l - l%64:Nat):Int))*1)+Nat.min (l - Int.toNat ((l - l%64:Nat):Int)) 128≤a.size)∧(a.extract (if cp=Int.toNat ((l - l%64:Nat):Int) then o else o+(Int.toNat ((l - l%64:Nat):Int))*1) ((if cp=Int.toNat ((l - l%64:Nat):Int) then o else o+(Int.toNat ((l - l%64:Nat):Int))*1)+Nat.min (l - Int.toNat ((l - l%64:Nat):Int)) 128)).all (fun v=>v.oneCell')=true∧Calm.splice (wA .u8 128 []) 0 (a.extract (if cp=Int.toNat ((l - l%64:Nat):Int) then o else o+(Int.toNat ((l - l%64:Nat):Int))*1) ((if cp=Int.toNat ((l - l%64:Nat):Int) then o else o+(Int.toNat ((l - l%64:Nat):Int))*1)+Nat.min (l - Int.toNat ((l - l%64:Nat):Int)) 128))=(wA .u8 128 (bL a (if cp=Int.toNat ((l - l%64:Nat):Int) then o else o+(Int.toNat ((l - l%64:Nat):Int))*1) (l%64))))) (q6:((0:Int)≤((l%64:Nat):Int)∧(((l%64:Nat):Int):Int)<((128:Nat):Int))) (q7:((0+Int.toNat ((l%64:Nat):Int)*1)<(wA .u8 128 (bL a (if cp=Int.toNat ((l - l%64:Nat):Int) then o else o+(Int.toNat ((l - l%64:Nat):Int))*1) (l%64))).size∧(wA .u8 128 (bL a (if cp=Int.toNat ((l - l%64:Nat):Int) then o else o+(Int.toNat ((l - l%64:Nat):Int))*1) (l%64))).setIfInBounds (0+Int.toNat ((l%64:Nat):Int)*1) (.int .u8 128)=(wA .u8 128 ((bL a (if cp=Int.toNat ((l - l%64:Nat):Int) then o else o+(Int.toNat ((l - l%64:Nat):Int))*1) (l%64)) ++ [128])))) (q8:(True∧(IntKind.u64.wrap (l:Int))=(l:Int))) (q9:(True∧(IntKind.u64.wrap (8*(l:Int)))=((8*l:Nat):Int))) (h0:(decide (64<((l%64+9:Nat):Int)))=true) :Runs Tryd.prog (cAt [] (bdy Tryd.f29)) ⟨en2L_a a t o l cp,[(a,t)],c0,ch0⟩ (fun e s=>e= .ret∧∃ c ch,s=⟨en2L_b a t o l cp,[(a,t),((((((((((wA .u8 128 ((bL a (if cp=Int.toNat ((l - l%64:Nat):Int) then o else o+(Int.toNat ((l - l%64:Nat):Int))*1) (l%64)) ++ [128])).setIfInBounds 127 (.int .u8 (IntKind.u8.wrap (((8*l:Nat):Int) / 2 ^ (0))))).setIfInBounds 126 (.int .u8 (IntKind.u8.wrap (((8*l:Nat):Int) / 2 ^ (8))))).setIfInBounds 125 (.int .u8 (IntKind.u8.wrap (((8*l:Nat):Int) / 2 ^ (16))))).setIfInBounds 124 (.int .u8 (IntKind.u8.wrap (((8*l:Nat):Int) / 2 ^ (24))))).setIfInBounds 123 (.int .u8 (IntKind.u8.wrap (((8*l:Nat):Int) / 2 ^ (32))))).setIfInBounds 122 (.int .u8 (IntKind.u8.wrap (((8*l:Nat):Int) / 2 ^ (40))))).setIfInBounds 121 (.int .u8 (IntKind.u8.wrap (((8*l:Nat):Int) / 2 ^ (48))))).setIfInBounds 120 (.int .u8 (IntKind.u8.wrap (((8*l:Nat):Int) / 2 ^ (56))))),(5,(0,0)))],c,ch⟩) 1:=by
  refine(runs_ev mixed [some (.int .i64 ((l%64:Nat):Int)),some (.int .i64 ((l%64+1:Nat):Int)),some (.int .i64 ((l%64+9:Nat):Int)),some (.bool true),none,some (.int .i64 ((l - l%64:Nat):Int)),some (.agg (wA .u8 128 (bL a (if cp=Int.toNat ((l - l%64:Nat):Int) then o else o+(Int.toNat ((l - l%64:Nat):Int))*1) (l%64)))),some (.agg (wA .u8 128 ((bL a (if cp=Int.toNat ((l - l%64:Nat):Int) then o else o+(Int.toNat ((l - l%64:Nat):Int))*1) (l%64)) ++ [128]))),some (.int .u64 (l:Int)),some (.int .u64 ((8*l:Nat):Int))] (en2L_0 a t o l cp ) (tt6 ⟨(tt1 ⟨(tt5 (tt9 ⟨(tt1 ⟨(tt5 (tt9 ⟨(tt1 ⟨(tt5 (tt9 ⟨(tt1 ⟨(tt5 (tt9 ⟨(tt1 ⟨(tt5 (tt9 ⟨(tt1 ⟨(tt5 (tt9 ⟨(tt1 ⟨(tt5 (tt9 ⟨(tt1 ⟨(tt4 (tt9 ⟨⟨(tt2 ⟨⟨(tt2 ⟨⟨⟨(tt6 ⟨(tt4 ⟨(tt1 ⟨(tt1 ⟨(tt4 ⟨(tt4 trivial),q0⟩),q1⟩),q2⟩),⟨trivial,h0⟩⟩),⟨by decide,rfl,by decide,by decide⟩⟩),q3⟩,q4⟩,q5⟩),q6⟩,q7⟩),q8⟩,q9⟩)),(by decide)⟩),⟨by decide,by decide⟩⟩)),(by decide)⟩),⟨by decide,by decide⟩⟩)),(by decide)⟩),⟨by decide,by decide⟩⟩)),(by decide)⟩),⟨by decide,by decide⟩⟩)),(by decide)⟩),⟨by decide,by decide⟩⟩)),(by decide)⟩),⟨by decide,by decide⟩⟩)),(by decide)⟩),⟨by decide,by decide⟩⟩)),(by decide)⟩),⟨by decide,by decide⟩⟩)).mono ?_
  rintro e s ⟨rfl,rfl⟩
  exact⟨rfl,_,_,rfl⟩
def en2S_h (i:Nat):Hn:=⟨0,[],[],[],[]⟩
def en2S_a (a:Array Value) (t:Tq) (o l cp:Nat):List Value:= [.slice (some ⟨0,o,none⟩) l cp,.int .i64 64,.int .i64 8,undef,undef,undef,undef,undef,undef,undef,undef,undef,undef,undef,undef,undef,undef,undef,undef,undef,undef,undef,undef,undef,undef,undef,undef,undef,undef,undef,undef,undef,undef,undef,undef,undef,undef,undef,undef,undef,undef,undef,undef,undef,undef,undef,undef,undef,undef,undef,undef,undef,undef,undef,undef,undef,undef,undef]
def en2S_b (a:Array Value) (t:Tq) (o l cp:Nat):List Value:= [.slice (some ⟨0,o,none⟩) l cp,.int .i64 64,.int .i64 8,undef,undef,undef,.slice (some ⟨1,0,none⟩) 64 64,.int .i64 ((l%64:Nat):Int),.int .i64 64,.slice (some ⟨1,0,none⟩) 64 64,.int .u64 ((8*l:Nat):Int),.int .i64 7,.slice (some ⟨0,o,none⟩) l cp,.int .i64 (l:Int),.int .i64 64,.int .i64 ((l%64:Nat):Int),.int .i64 64,.int .i64 ((l%64:Nat):Int),.int .i64 ((l%64+1:Nat):Int),.int .i64 8,.int .i64 ((l%64+9:Nat):Int),.int .i64 64,.bool false,undef,undef,.int .i64 64,.slice (some ⟨1,0,none⟩) 64 64,.slice (some ⟨1,0,none⟩) 64 64,.slice (some ⟨0,o,none⟩) l cp,.slice (some ⟨0,o,none⟩) l cp,.int .i64 (l:Int),.int .i64 ((l%64:Nat):Int),.int .i64 ((l - l%64:Nat):Int),.slice (some ⟨0,(if cp=Int.toNat ((l - l%64:Nat):Int) then o else o+(Int.toNat ((l - l%64:Nat):Int))*1),none⟩) (l - Int.toNat ((l - l%64:Nat):Int)) (cp - Int.toNat ((l - l%64:Nat):Int)),.int .i64 ((Nat.min (l - Int.toNat ((l - l%64:Nat):Int)) 64:Nat):Int),.slice (some ⟨1,0,none⟩) 64 64,.int .i64 ((l%64:Nat):Int),.pointer (some ⟨1,0+Int.toNat ((l%64:Nat):Int)*1,none⟩),.slice (some ⟨0,o,none⟩) l cp,.int .i64 (l:Int),.int .u64 (l:Int),.int .u64 ((8*l:Nat):Int),.int .i64 8,.bool false,.int .i64 7,.slice (some ⟨1,0,none⟩) 64 64,.int .i64 64,.int .i64 63,.int .i64 7,.int .i64 56,.int .u64 ((8*l:Nat):Int),.int .i64 7,.int .i64 56,.int .u64 (((8*l:Nat):Int) / 2 ^ (56)),.int .u8 (IntKind.u8.wrap (((8*l:Nat):Int) / 2 ^ (56))),.pointer (some ⟨1,56,none⟩),.int .i64 8,.slice (some ⟨1,0,none⟩) 64 64]
set_option maxRecDepth 100000 in
theorem en2S_0 (a:Array Value) (t:Tq) (o l cp:Nat):evC (yty.enf tabS7 1) en2S_h (cAt [] (bdy Tryd.f29)) ⟨en2S_a a t o l cp,[(a,t)],True,[some (.int .i64 ((l%64:Nat):Int)),some (.int .i64 ((l%64+1:Nat):Int)),some (.int .i64 ((l%64+9:Nat):Int)),some (.bool false),some (.int .i64 ((l - l%64:Nat):Int)),some (.agg (wA .u8 64 (bL a (if cp=Int.toNat ((l - l%64:Nat):Int) then o else o+(Int.toNat ((l - l%64:Nat):Int))*1) (l%64)))),some (.agg (wA .u8 64 ((bL a (if cp=Int.toNat ((l - l%64:Nat):Int) then o else o+(Int.toNat ((l - l%64:Nat):Int))*1) (l%64)) ++ [128]))),some (.int .u64 (l:Int)),some (.int .u64 ((8*l:Nat):Int))]⟩=some (.ret,⟨en2S_b a t o l cp,[(a,t),((((((((((wA .u8 64 ((bL a (if cp=Int.toNat ((l - l%64:Nat):Int) then o else o+(Int.toNat ((l - l%64:Nat):Int))*1) (l%64)) ++ [128])).setIfInBounds 63 (.int .u8 (IntKind.u8.wrap (((8*l:Nat):Int) / 2 ^ (0))))).setIfInBounds 62 (.int .u8 (IntKind.u8.wrap (((8*l:Nat):Int) / 2 ^ (8))))).setIfInBounds 61 (.int .u8 (IntKind.u8.wrap (((8*l:Nat):Int) / 2 ^ (16))))).setIfInBounds 60 (.int .u8 (IntKind.u8.wrap (((8*l:Nat):Int) / 2 ^ (24))))).setIfInBounds 59 (.int .u8 (IntKind.u8.wrap (((8*l:Nat):Int) / 2 ^ (32))))).setIfInBounds 58 (.int .u8 (IntKind.u8.wrap (((8*l:Nat):Int) / 2 ^ (40))))).setIfInBounds 57 (.int .u8 (IntKind.u8.wrap (((8*l:Nat):Int) / 2 ^ (48))))).setIfInBounds 56 (.int .u8 (IntKind.u8.wrap (((8*l:Nat):Int) / 2 ^ (56))))),(5,(0,0)))],((((((((((((((((((((((((((((((((((((((((((((((((((((((((((((((((((((((((((((((((((((((((((((((((((((((((((((((((((((((((((((((((((((((((((((((((((((((((((((((((((((((((((((((True∧True)∧True)∧True)∧True)∧(((64:Int)≠0)∧(Int.tmod (l:Int) 64)=((l%64:Nat):Int)))∧True)∧True)∧True)∧True)∧(True∧(IntKind.i64.wrap (((l%64:Nat):Int)+1))=((l%64+1:Nat):Int)))∧True)∧(True∧(IntKind.i64.wrap (((l%64+1:Nat):Int)+8))=((l%64+9:Nat):Int)))∧True)∧(True∧(decide (64<((l%64+9:Nat):Int)))=false))∧True)∧((0:Int)≤64∧(64:Int)=64∧1*Int.toNat 64≤281474976710656∧Int.toNat 64≤9223372036854775807))∧True)∧True)∧True)∧True)∧True)∧True)∧(True∧(IntKind.i64.wrap ((l:Int) - ((l%64:Nat):Int)))=((l - l%64:Nat):Int)))∧(((0≤((l - l%64:Nat):Int))∧True)∧Int.toNat ((l - l%64:Nat):Int)≤l∧l≤cp))∧((0+Nat.min (l - Int.toNat ((l - l%64:Nat):Int)) 64≤(wA .u8 64 []).size∧(if cp=Int.toNat ((l - l%64:Nat):Int) then o else o+(Int.toNat ((l - l%64:Nat):Int))*1)+Nat.min (l - Int.toNat ((l - l%64:Nat):Int)) 64≤a.size)∧(a.extract (if cp=Int.toNat ((l - l%64:Nat):Int) then o else o+(Int.toNat ((l - l%64:Nat):Int))*1) ((if cp=Int.toNat ((l - l%64:Nat):Int) then o else o+(Int.toNat ((l - l%64:Nat):Int))*1)+Nat.min (l - Int.toNat ((l - l%64:Nat):Int)) 64)).all (fun v=>v.oneCell')=true∧Calm.splice (wA .u8 64 []) 0 (a.extract (if cp=Int.toNat ((l - l%64:Nat):Int) then o else o+(Int.toNat ((l - l%64:Nat):Int))*1) ((if cp=Int.toNat ((l - l%64:Nat):Int) then o else o+(Int.toNat ((l - l%64:Nat):Int))*1)+Nat.min (l - Int.toNat ((l - l%64:Nat):Int)) 64))=(wA .u8 64 (bL a (if cp=Int.toNat ((l - l%64:Nat):Int) then o else o+(Int.toNat ((l - l%64:Nat):Int))*1) (l%64)))))∧True)∧True)∧((0:Int)≤((l%64:Nat):Int)∧(((l%64:Nat):Int):Int)<((64:Nat):Int)))∧((0+Int.toNat ((l%64:Nat):Int)*1)<(wA .u8 64 (bL a (if cp=Int.toNat ((l - l%64:Nat):Int) then o else o+(Int.toNat ((l - l%64:Nat):Int))*1) (l%64))).size∧(wA .u8 64 (bL a (if cp=Int.toNat ((l - l%64:Nat):Int) then o else o+(Int.toNat ((l - l%64:Nat):Int))*1) (l%64))).setIfInBounds (0+Int.toNat ((l%64:Nat):Int)*1) (.int .u8 128)=(wA .u8 64 ((bL a (if cp=Int.toNat ((l - l%64:Nat):Int) then o else o+(Int.toNat ((l - l%64:Nat):Int))*1) (l%64)) ++ [128]))))∧True)∧True)∧(True∧(IntKind.u64.wrap (l:Int))=(l:Int)))∧(True∧(IntKind.u64.wrap (8*(l:Int)))=((8*l:Nat):Int)))∧True)∧True)∧True)∧True)∧True)∧True)∧True)∧True)∧True)∧True)∧True)∧True)∧True)∧((0:Int)≤0))∧True)∧((0:Int)≤63∧(63:Int)<((64:Nat):Int)))∧True)∧True)∧True)∧True)∧True)∧True)∧True)∧True)∧True)∧True)∧True)∧True)∧True)∧True)∧((0:Int)≤8))∧True)∧((0:Int)≤62∧(62:Int)<((64:Nat):Int)))∧True)∧True)∧True)∧True)∧True)∧True)∧True)∧True)∧True)∧True)∧True)∧True)∧True)∧True)∧((0:Int)≤16))∧True)∧((0:Int)≤61∧(61:Int)<((64:Nat):Int)))∧True)∧True)∧True)∧True)∧True)∧True)∧True)∧True)∧True)∧True)∧True)∧True)∧True)∧True)∧((0:Int)≤24))∧True)∧((0:Int)≤60∧(60:Int)<((64:Nat):Int)))∧True)∧True)∧True)∧True)∧True)∧True)∧True)∧True)∧True)∧True)∧True)∧True)∧True)∧True)∧((0:Int)≤32))∧True)∧((0:Int)≤59∧(59:Int)<((64:Nat):Int)))∧True)∧True)∧True)∧True)∧True)∧True)∧True)∧True)∧True)∧True)∧True)∧True)∧True)∧True)∧((0:Int)≤40))∧True)∧((0:Int)≤58∧(58:Int)<((64:Nat):Int)))∧True)∧True)∧True)∧True)∧True)∧True)∧True)∧True)∧True)∧True)∧True)∧True)∧True)∧True)∧((0:Int)≤48))∧True)∧((0:Int)≤57∧(57:Int)<((64:Nat):Int)))∧True)∧True)∧True)∧True)∧True)∧True)∧True)∧True)∧True)∧True)∧True)∧True)∧True)∧True)∧((0:Int)≤56))∧True)∧((0:Int)≤56∧(56:Int)<((64:Nat):Int)))∧True)∧True)∧True)∧True)∧True)∧True),[]⟩):=by kernel_rfl
set_option maxRecDepth 100000 in
theorem en2S_r (a:Array Value) (t:Tq) (o l cp:Nat)   (q0:(((64:Int)≠0)∧(Int.tmod (l:Int) 64)=((l%64:Nat):Int))) (q1:(True∧(IntKind.i64.wrap (((l%64:Nat):Int)+1))=((l%64+1:Nat):Int))) (q2:(True∧(IntKind.i64.wrap (((l%64+1:Nat):Int)+8))=((l%64+9:Nat):Int))) (q3:(True∧(IntKind.i64.wrap ((l:Int) - ((l%64:Nat):Int)))=((l - l%64:Nat):Int))) (q4:(((0≤((l - l%64:Nat):Int))∧True)∧Int.toNat ((l - l%64:Nat):Int)≤l∧l≤cp)) (q5:((0+Nat.min (l - Int.toNat ((l - l%64:Nat):Int)) 64≤(wA .u8 64 []).size∧(if cp=Int.toNat ((l - l%64:Nat):Int) then o else o+(Int.toNat ((l - l%64:Nat):Int))*1)+Nat.min (l - Int.toNat ((l - l%64:Nat):Int)) 64≤a.size)∧(a.extract (if cp=Int.toNat ((l - l%64:Nat):Int) then o else o+(Int.toNat ((l - l%64:Nat):Int))*1) ((if cp=Int.toNat ((l - l%64:Nat):Int) then o else o+(Int.toNat ((l - l%64:Nat):Int))*1)+Nat.min (l - Int.toNat ((l - l%64:Nat):Int)) 64)).all (fun v=>v.oneCell')=true∧Calm.splice (wA .u8 64 []) 0 (a.extract (if cp=Int.toNat ((l - l%64:Nat):Int) then o else o+(Int.toNat ((l - l%64:Nat):Int))*1) ((if cp=Int.toNat ((l - l%64:Nat):Int) then o else o+(Int.toNat ((l - l%64:Nat):Int))*1)+Nat.min (l - Int.toNat ((l - l%64:Nat):Int)) 64))=(wA .u8 64 (bL a (if cp=Int.toNat ((l - l%64:Nat):Int) then o else o+(Int.toNat ((l - l%64:Nat):Int))*1) (l%64))))) (q6:((0:Int)≤((l%64:Nat):Int)∧(((l%64:Nat):Int):Int)<((64:Nat):Int))) (q7:((0+Int.toNat ((l%64:Nat):Int)*1)<(wA .u8 64 (bL a (if cp=Int.toNat ((l - l%64:Nat):Int) then o else o+(Int.toNat ((l - l%64:Nat):Int))*1) (l%64))).size∧(wA .u8 64 (bL a (if cp=Int.toNat ((l - l%64:Nat):Int) then o else o+(Int.toNat ((l - l%64:Nat):Int))*1) (l%64))).setIfInBounds (0+Int.toNat ((l%64:Nat):Int)*1) (.int .u8 128)=(wA .u8 64 ((bL a (if cp=Int.toNat ((l - l%64:Nat):Int) then o else o+(Int.toNat ((l - l%64:Nat):Int))*1) (l%64)) ++ [128])))) (q8:(True∧(IntKind.u64.wrap (l:Int))=(l:Int))) (q9:(True∧(IntKind.u64.wrap (8*(l:Int)))=((8*l:Nat):Int))) (h0:(decide (64<((l%64+9:Nat):Int)))=false) :Runs Tryd.prog (cAt [] (bdy Tryd.f29)) ⟨en2S_a a t o l cp,[(a,t)],c0,ch0⟩ (fun e s=>e= .ret∧∃ c ch,s=⟨en2S_b a t o l cp,[(a,t),((((((((((wA .u8 64 ((bL a (if cp=Int.toNat ((l - l%64:Nat):Int) then o else o+(Int.toNat ((l - l%64:Nat):Int))*1) (l%64)) ++ [128])).setIfInBounds 63 (.int .u8 (IntKind.u8.wrap (((8*l:Nat):Int) / 2 ^ (0))))).setIfInBounds 62 (.int .u8 (IntKind.u8.wrap (((8*l:Nat):Int) / 2 ^ (8))))).setIfInBounds 61 (.int .u8 (IntKind.u8.wrap (((8*l:Nat):Int) / 2 ^ (16))))).setIfInBounds 60 (.int .u8 (IntKind.u8.wrap (((8*l:Nat):Int) / 2 ^ (24))))).setIfInBounds 59 (.int .u8 (IntKind.u8.wrap (((8*l:Nat):Int) / 2 ^ (32))))).setIfInBounds 58 (.int .u8 (IntKind.u8.wrap (((8*l:Nat):Int) / 2 ^ (40))))).setIfInBounds 57 (.int .u8 (IntKind.u8.wrap (((8*l:Nat):Int) / 2 ^ (48))))).setIfInBounds 56 (.int .u8 (IntKind.u8.wrap (((8*l:Nat):Int) / 2 ^ (56))))),(5,(0,0)))],c,ch⟩) 1:=by
  refine(runs_ev mixed [some (.int .i64 ((l%64:Nat):Int)),some (.int .i64 ((l%64+1:Nat):Int)),some (.int .i64 ((l%64+9:Nat):Int)),some (.bool false),some (.int .i64 ((l - l%64:Nat):Int)),some (.agg (wA .u8 64 (bL a (if cp=Int.toNat ((l - l%64:Nat):Int) then o else o+(Int.toNat ((l - l%64:Nat):Int))*1) (l%64)))),some (.agg (wA .u8 64 ((bL a (if cp=Int.toNat ((l - l%64:Nat):Int) then o else o+(Int.toNat ((l - l%64:Nat):Int))*1) (l%64)) ++ [128]))),some (.int .u64 (l:Int)),some (.int .u64 ((8*l:Nat):Int))] (en2S_0 a t o l cp ) (tt6 ⟨(tt1 ⟨(tt5 (tt9 ⟨(tt1 ⟨(tt5 (tt9 ⟨(tt1 ⟨(tt5 (tt9 ⟨(tt1 ⟨(tt5 (tt9 ⟨(tt1 ⟨(tt5 (tt9 ⟨(tt1 ⟨(tt5 (tt9 ⟨(tt1 ⟨(tt5 (tt9 ⟨(tt1 ⟨(tt4 (tt9 ⟨⟨(tt2 ⟨⟨(tt2 ⟨⟨⟨(tt6 ⟨(tt1 ⟨(tt1 ⟨(tt1 ⟨(tt4 ⟨(tt4 trivial),q0⟩),q1⟩),q2⟩),⟨trivial,h0⟩⟩),⟨by decide,rfl,by decide,by decide⟩⟩),q3⟩,q4⟩,q5⟩),q6⟩,q7⟩),q8⟩,q9⟩)),(by decide)⟩),⟨by decide,by decide⟩⟩)),(by decide)⟩),⟨by decide,by decide⟩⟩)),(by decide)⟩),⟨by decide,by decide⟩⟩)),(by decide)⟩),⟨by decide,by decide⟩⟩)),(by decide)⟩),⟨by decide,by decide⟩⟩)),(by decide)⟩),⟨by decide,by decide⟩⟩)),(by decide)⟩),⟨by decide,by decide⟩⟩)),(by decide)⟩),⟨by decide,by decide⟩⟩)).mono ?_
  rintro e s ⟨rfl,rfl⟩
  exact⟨rfl,_,_,rfl⟩
def en2N_h (i:Nat):Hn:=⟨0,[],[],[],[]⟩
def en2N_a:List Value:= [.slice none 0 0,.int .i64 64,.int .i64 8,undef,undef,undef,undef,undef,undef,undef,undef,undef,undef,undef,undef,undef,undef,undef,undef,undef,undef,undef,undef,undef,undef,undef,undef,undef,undef,undef,undef,undef,undef,undef,undef,undef,undef,undef,undef,undef,undef,undef,undef,undef,undef,undef,undef,undef,undef,undef,undef,undef,undef,undef,undef,undef,undef,undef]
def en2N_b:List Value:= [.slice none 0 0,.int .i64 64,.int .i64 8,undef,undef,undef,.slice (some ⟨0,0,none⟩) 64 64,.int .i64 0,.int .i64 64,.slice (some ⟨0,0,none⟩) 64 64,.int .u64 0,.int .i64 7,.slice none 0 0,.int .i64 0,.int .i64 64,.int .i64 0,.int .i64 64,.int .i64 0,.int .i64 1,.int .i64 8,.int .i64 9,.int .i64 64,.bool false,undef,undef,.int .i64 64,.slice (some ⟨0,0,none⟩) 64 64,.slice (some ⟨0,0,none⟩) 64 64,.slice none 0 0,.slice none 0 0,.int .i64 0,.int .i64 0,.int .i64 0,.slice none 0 0,.int .i64 0,.slice (some ⟨0,0,none⟩) 64 64,.int .i64 0,.pointer (some ⟨0,0,none⟩),.slice none 0 0,.int .i64 0,.int .u64 0,.int .u64 0,.int .i64 8,.bool false,.int .i64 7,.slice (some ⟨0,0,none⟩) 64 64,.int .i64 64,.int .i64 63,.int .i64 7,.int .i64 56,.int .u64 0,.int .i64 7,.int .i64 56,.int .u64 0,.int .u8 0,.pointer (some ⟨0,56,none⟩),.int .i64 8,.slice (some ⟨0,0,none⟩) 64 64]
set_option maxRecDepth 100000 in
theorem en2N_0:evC (yty.en tabS7) en2N_h (cAt [] (bdy Tryd.f29)) ⟨en2N_a,[],True,[]⟩=some (.ret,⟨en2N_b,[(((((((((((wA .u8 64 []).setIfInBounds 0 (.int .u8 128)).setIfInBounds 63 (.int .u8 0)).setIfInBounds 62 (.int .u8 0)).setIfInBounds 61 (.int .u8 0)).setIfInBounds 60 (.int .u8 0)).setIfInBounds 59 (.int .u8 0)).setIfInBounds 58 (.int .u8 0)).setIfInBounds 57 (.int .u8 0)).setIfInBounds 56 (.int .u8 0)),(5,(0,0)))],((((((((((((((((((((((((((((((((((((((((((((((((((((((((((((((((((((((((((((((((((((((((((((((((((((((((((((((((((((((((((((((((((((((((((((((((((((((((((((((((((((((((((((((True∧True)∧True)∧True)∧True)∧((64:Int)≠0))∧True)∧True)∧True)∧True)∧True)∧True)∧True)∧True)∧True)∧True)∧((0:Int)≤64∧(64:Int)=64∧1*Int.toNat 64≤281474976710656∧Int.toNat 64≤9223372036854775807))∧True)∧True)∧True)∧True)∧True)∧True)∧True)∧((((0:Int)≤0)∧True)∧0≤0∧0≤0))∧True)∧True)∧True)∧((0:Int)≤0∧(0:Int)<((64:Nat):Int)))∧True)∧True)∧True)∧True)∧True)∧True)∧True)∧True)∧True)∧True)∧True)∧True)∧True)∧True)∧True)∧True)∧True)∧True)∧((0:Int)≤0))∧True)∧((0:Int)≤63∧(63:Int)<((64:Nat):Int)))∧True)∧True)∧True)∧True)∧True)∧True)∧True)∧True)∧True)∧True)∧True)∧True)∧True)∧True)∧((0:Int)≤8))∧True)∧((0:Int)≤62∧(62:Int)<((64:Nat):Int)))∧True)∧True)∧True)∧True)∧True)∧True)∧True)∧True)∧True)∧True)∧True)∧True)∧True)∧True)∧((0:Int)≤16))∧True)∧((0:Int)≤61∧(61:Int)<((64:Nat):Int)))∧True)∧True)∧True)∧True)∧True)∧True)∧True)∧True)∧True)∧True)∧True)∧True)∧True)∧True)∧((0:Int)≤24))∧True)∧((0:Int)≤60∧(60:Int)<((64:Nat):Int)))∧True)∧True)∧True)∧True)∧True)∧True)∧True)∧True)∧True)∧True)∧True)∧True)∧True)∧True)∧((0:Int)≤32))∧True)∧((0:Int)≤59∧(59:Int)<((64:Nat):Int)))∧True)∧True)∧True)∧True)∧True)∧True)∧True)∧True)∧True)∧True)∧True)∧True)∧True)∧True)∧((0:Int)≤40))∧True)∧((0:Int)≤58∧(58:Int)<((64:Nat):Int)))∧True)∧True)∧True)∧True)∧True)∧True)∧True)∧True)∧True)∧True)∧True)∧True)∧True)∧True)∧((0:Int)≤48))∧True)∧((0:Int)≤57∧(57:Int)<((64:Nat):Int)))∧True)∧True)∧True)∧True)∧True)∧True)∧True)∧True)∧True)∧True)∧True)∧True)∧True)∧True)∧((0:Int)≤56))∧True)∧((0:Int)≤56∧(56:Int)<((64:Nat):Int)))∧True)∧True)∧True)∧True)∧True)∧True),[]⟩):=by kernel_rfl
set_option maxRecDepth 100000 in
theorem en2N_r     :Runs Tryd.prog (cAt [] (bdy Tryd.f29)) ⟨en2N_a,[],c0,ch0⟩ (fun e s=>e= .ret∧∃ c ch,s=⟨en2N_b,[(((((((((((wA .u8 64 []).setIfInBounds 0 (.int .u8 128)).setIfInBounds 63 (.int .u8 0)).setIfInBounds 62 (.int .u8 0)).setIfInBounds 61 (.int .u8 0)).setIfInBounds 60 (.int .u8 0)).setIfInBounds 59 (.int .u8 0)).setIfInBounds 58 (.int .u8 0)).setIfInBounds 57 (.int .u8 0)).setIfInBounds 56 (.int .u8 0)),(5,(0,0)))],c,ch⟩):=by
  refine(runs_ev mixed [] (en2N_0  ) (tt6 ⟨(tt1 ⟨(tt5 (tt9 ⟨(tt1 ⟨(tt5 (tt9 ⟨(tt1 ⟨(tt5 (tt9 ⟨(tt1 ⟨(tt5 (tt9 ⟨(tt1 ⟨(tt5 (tt9 ⟨(tt1 ⟨(tt5 (tt9 ⟨(tt1 ⟨(tt5 (tt9 ⟨(tt1 ⟨(tt9 (tt9 ⟨(tt3 ⟨(tt7 ⟨(tt1 (tt9 ⟨(tt4 trivial),(by decide)⟩)),⟨by decide,rfl,by decide,by decide⟩⟩),⟨(tt1 (by decide)),(by decide),(by decide)⟩⟩),⟨by decide,by decide⟩⟩)),(by decide)⟩),⟨by decide,by decide⟩⟩)),(by decide)⟩),⟨by decide,by decide⟩⟩)),(by decide)⟩),⟨by decide,by decide⟩⟩)),(by decide)⟩),⟨by decide,by decide⟩⟩)),(by decide)⟩),⟨by decide,by decide⟩⟩)),(by decide)⟩),⟨by decide,by decide⟩⟩)),(by decide)⟩),⟨by decide,by decide⟩⟩)),(by decide)⟩),⟨by decide,by decide⟩⟩)).mono ?_
  rintro e s ⟨rfl,rfl⟩
  exact⟨rfl,_,_,rfl⟩
def en5L_h (i:Nat):Hn:=⟨0,[],[],[],[]⟩
def en5L_a (a:Array Value) (t:Tq) (o l cp:Nat):List Value:= [.slice (some ⟨0,o,none⟩) l cp,.int .i64 128,.int .i64 16,undef,undef,undef,undef,undef,undef,undef,undef,undef,undef,undef,undef,undef,undef,undef,undef,undef,undef,undef,undef,undef,undef,undef,undef,undef,undef,undef,undef,undef,undef,undef,undef,undef,undef,undef,undef,undef,undef,undef,undef,undef,undef,undef,undef,undef,undef,undef,undef,undef,undef,undef,undef,undef,undef,undef]
def en5L_b (a:Array Value) (t:Tq) (o l cp:Nat):List Value:= [.slice (some ⟨0,o,none⟩) l cp,.int .i64 128,.int .i64 16,undef,undef,undef,.slice (some ⟨1,0,none⟩) 256 256,.int .i64 ((l%128:Nat):Int),.int .i64 256,.slice (some ⟨1,0,none⟩) 256 256,.int .u64 ((8*l:Nat):Int),.int .i64 7,.slice (some ⟨0,o,none⟩) l cp,.int .i64 (l:Int),.int .i64 128,.int .i64 ((l%128:Nat):Int),.int .i64 128,.int .i64 ((l%128:Nat):Int),.int .i64 ((l%128+1:Nat):Int),.int .i64 16,.int .i64 ((l%128+17:Nat):Int),.int .i64 128,.bool true,.int .i64 128,.int .i64 256,.int .i64 256,.slice (some ⟨1,0,none⟩) 256 256,.slice (some ⟨1,0,none⟩) 256 256,.slice (some ⟨0,o,none⟩) l cp,.slice (some ⟨0,o,none⟩) l cp,.int .i64 (l:Int),.int .i64 ((l%128:Nat):Int),.int .i64 ((l - l%128:Nat):Int),.slice (some ⟨0,(if cp=Int.toNat ((l - l%128:Nat):Int) then o else o+(Int.toNat ((l - l%128:Nat):Int))*1),none⟩) (l - Int.toNat ((l - l%128:Nat):Int)) (cp - Int.toNat ((l - l%128:Nat):Int)),.int .i64 ((Nat.min (l - Int.toNat ((l - l%128:Nat):Int)) 256:Nat):Int),.slice (some ⟨1,0,none⟩) 256 256,.int .i64 ((l%128:Nat):Int),.pointer (some ⟨1,0+Int.toNat ((l%128:Nat):Int)*1,none⟩),.slice (some ⟨0,o,none⟩) l cp,.int .i64 (l:Int),.int .u64 (l:Int),.int .u64 ((8*l:Nat):Int),.int .i64 8,.bool false,.int .i64 7,.slice (some ⟨1,0,none⟩) 256 256,.int .i64 256,.int .i64 255,.int .i64 7,.int .i64 248,.int .u64 ((8*l:Nat):Int),.int .i64 7,.int .i64 56,.int .u64 (((8*l:Nat):Int) / 2 ^ (56)),.int .u8 (IntKind.u8.wrap (((8*l:Nat):Int) / 2 ^ (56))),.pointer (some ⟨1,248,none⟩),.int .i64 8,.slice (some ⟨1,0,none⟩) 256 256]
set_option maxRecDepth 100000 in
theorem en5L_0 (a:Array Value) (t:Tq) (o l cp:Nat):evC (yty.enf tabS7 1) en5L_h (cAt [] (bdy Tryd.f29)) ⟨en5L_a a t o l cp,[(a,t)],True,[some (.int .i64 ((l%128:Nat):Int)),some (.int .i64 ((l%128+1:Nat):Int)),some (.int .i64 ((l%128+17:Nat):Int)),some (.bool true),none,some (.int .i64 ((l - l%128:Nat):Int)),some (.agg (wA .u8 256 (bL a (if cp=Int.toNat ((l - l%128:Nat):Int) then o else o+(Int.toNat ((l - l%128:Nat):Int))*1) (l%128)))),some (.agg (wA .u8 256 ((bL a (if cp=Int.toNat ((l - l%128:Nat):Int) then o else o+(Int.toNat ((l - l%128:Nat):Int))*1) (l%128)) ++ [128]))),some (.int .u64 (l:Int)),some (.int .u64 ((8*l:Nat):Int))]⟩=some (.ret,⟨en5L_b a t o l cp,[(a,t),((((((((((wA .u8 256 ((bL a (if cp=Int.toNat ((l - l%128:Nat):Int) then o else o+(Int.toNat ((l - l%128:Nat):Int))*1) (l%128)) ++ [128])).setIfInBounds 255 (.int .u8 (IntKind.u8.wrap (((8*l:Nat):Int) / 2 ^ (0))))).setIfInBounds 254 (.int .u8 (IntKind.u8.wrap (((8*l:Nat):Int) / 2 ^ (8))))).setIfInBounds 253 (.int .u8 (IntKind.u8.wrap (((8*l:Nat):Int) / 2 ^ (16))))).setIfInBounds 252 (.int .u8 (IntKind.u8.wrap (((8*l:Nat):Int) / 2 ^ (24))))).setIfInBounds 251 (.int .u8 (IntKind.u8.wrap (((8*l:Nat):Int) / 2 ^ (32))))).setIfInBounds 250 (.int .u8 (IntKind.u8.wrap (((8*l:Nat):Int) / 2 ^ (40))))).setIfInBounds 249 (.int .u8 (IntKind.u8.wrap (((8*l:Nat):Int) / 2 ^ (48))))).setIfInBounds 248 (.int .u8 (IntKind.u8.wrap (((8*l:Nat):Int) / 2 ^ (56))))),(5,(0,0)))],(((((((((((((((((((((((((((((((((((((((((((((((((((((((((((((((((((((((((((((((((((((((((((((((((((((((((((((((((((((((((((((((((((((((((((((((((((((((((((((((((((((((((((((((((True∧True)∧True)∧True)∧True)∧(((128:Int)≠0)∧(Int.tmod (l:Int) 128)=((l%128:Nat):Int)))∧True)∧True)∧True)∧True)∧(True∧(IntKind.i64.wrap (((l%128:Nat):Int)+1))=((l%128+1:Nat):Int)))∧True)∧(True∧(IntKind.i64.wrap (((l%128+1:Nat):Int)+16))=((l%128+17:Nat):Int)))∧True)∧(True∧(decide (128<((l%128+17:Nat):Int)))=true))∧True)∧True)∧True)∧True)∧((0:Int)≤256∧(256:Int)=256∧1*Int.toNat 256≤281474976710656∧Int.toNat 256≤9223372036854775807))∧True)∧True)∧True)∧True)∧True)∧True)∧(True∧(IntKind.i64.wrap ((l:Int) - ((l%128:Nat):Int)))=((l - l%128:Nat):Int)))∧(((0≤((l - l%128:Nat):Int))∧True)∧Int.toNat ((l - l%128:Nat):Int)≤l∧l≤cp))∧((0+Nat.min (l - Int.toNat ((l - l%128:Nat):Int)) 256≤(wA .u8 256 []).size∧(if cp=Int.toNat ((l - l%128:Nat):Int) then o else o+(Int.toNat ((l - l%128:Nat):Int))*1)+Nat.min (l - Int.toNat ((l - l%128:Nat):Int)) 256≤a.size)∧(a.extract (if cp=Int.toNat ((l - l%128:Nat):Int) then o else o+(Int.toNat ((l - l%128:Nat):Int))*1) ((if cp=Int.toNat ((l - l%128:Nat):Int) then o else o+(Int.toNat ((l - l%128:Nat):Int))*1)+Nat.min (l - Int.toNat ((l - l%128:Nat):Int)) 256)).all (fun v=>v.oneCell')=true∧Calm.splice (wA .u8 256 []) 0 (a.extract (if cp=Int.toNat ((l - l%128:Nat):Int) then o else o+(Int.toNat ((l - l%128:Nat):Int))*1) ((if cp=Int.toNat ((l - l%128:Nat):Int) then o else o+(Int.toNat ((l - l%128:Nat):Int))*1)+Nat.min (l - Int.toNat ((l - l%128:Nat):Int)) 256))=(wA .u8 256 (bL a (if cp=Int.toNat ((l - l%128:Nat):Int) then o else o+(Int.toNat ((l - l%128:Nat):Int))*1) (l%128)))))∧True)∧True)∧((0:Int)≤((l%128:Nat):Int)∧(((l%128:Nat):Int):Int)<((256:Nat):Int)))∧((0+Int.toNat ((l%128:Nat):Int)*1)<(wA .u8 256 (bL a (if cp=Int.toNat ((l - l%128:Nat):Int) then o else o+(Int.toNat ((l - l%128:Nat):Int))*1) (l%128))).size∧(wA .u8 256 (bL a (if cp=Int.toNat ((l - l%128:Nat):Int) then o else o+(Int.toNat ((l - l%128:Nat):Int))*1) (l%128))).setIfInBounds (0+Int.toNat ((l%128:Nat):Int)*1) (.int .u8 128)=(wA .u8 256 ((bL a (if cp=Int.toNat ((l - l%128:Nat):Int) then o else o+(Int.toNat ((l - l%128:Nat):Int))*1) (l%128)) ++ [128]))))∧True)∧True)∧(True∧(IntKind.u64.wrap (l:Int))=(l:Int)))∧(True∧(IntKind.u64.wrap (8*(l:Int)))=((8*l:Nat):Int)))∧True)∧True)∧True)∧True)∧True)∧True)∧True)∧True)∧True)∧True)∧True)∧True)∧True)∧((0:Int)≤0))∧True)∧((0:Int)≤255∧(255:Int)<((256:Nat):Int)))∧True)∧True)∧True)∧True)∧True)∧True)∧True)∧True)∧True)∧True)∧True)∧True)∧True)∧True)∧((0:Int)≤8))∧True)∧((0:Int)≤254∧(254:Int)<((256:Nat):Int)))∧True)∧True)∧True)∧True)∧True)∧True)∧True)∧True)∧True)∧True)∧True)∧True)∧True)∧True)∧((0:Int)≤16))∧True)∧((0:Int)≤253∧(253:Int)<((256:Nat):Int)))∧True)∧True)∧True)∧True)∧True)∧True)∧True)∧True)∧True)∧True)∧True)∧True)∧True)∧True)∧((0:Int)≤24))∧True)∧((0:Int)≤252∧(252:Int)<((256:Nat):Int)))∧True)∧True)∧True)∧True)∧True)∧True)∧True)∧True)∧True)∧True)∧True)∧True)∧True)∧True)∧((0:Int)≤32))∧True)∧((0:Int)≤251∧(251:Int)<((256:Nat):Int)))∧True)∧True)∧True)∧True)∧True)∧True)∧True)∧True)∧True)∧True)∧True)∧True)∧True)∧True)∧((0:Int)≤40))∧True)∧((0:Int)≤250∧(250:Int)<((256:Nat):Int)))∧True)∧True)∧True)∧True)∧True)∧True)∧True)∧True)∧True)∧True)∧True)∧True)∧True)∧True)∧((0:Int)≤48))∧True)∧((0:Int)≤249∧(249:Int)<((256:Nat):Int)))∧True)∧True)∧True)∧True)∧True)∧True)∧True)∧True)∧True)∧True)∧True)∧True)∧True)∧True)∧((0:Int)≤56))∧True)∧((0:Int)≤248∧(248:Int)<((256:Nat):Int)))∧True)∧True)∧True)∧True)∧True)∧True),[]⟩):=by kernel_rfl
set_option maxRecDepth 100000 in
theorem en5L_r (a:Array Value) (t:Tq) (o l cp:Nat)   (q0:(((128:Int)≠0)∧(Int.tmod (l:Int) 128)=((l%128:Nat):Int))) (q1:(True∧(IntKind.i64.wrap (((l%128:Nat):Int)+1))=((l%128+1:Nat):Int))) (q2:(True∧(IntKind.i64.wrap (((l%128+1:Nat):Int)+16))=((l%128+17:Nat):Int))) (q3:(True∧(IntKind.i64.wrap ((l:Int) - ((l%128:Nat):Int)))=((l - l%128:Nat):Int))) (q4:(((0≤((l - l%128:Nat):Int))∧True)∧Int.toNat ((l - l%128:Nat):Int)≤l∧l≤cp)) (q5:((0+Nat.min (l - Int.toNat ((l - l%128:Nat):Int)) 256≤(wA .u8 256 []).size∧(if cp=Int.toNat ((l - l%128:Nat):Int) then o else o+(Int.toNat ((l - l%128:Nat):Int))*1)+Nat.min (l - Int.toNat ((l - l%128:Nat):Int)) 256≤a.size)∧(a.extract (if cp=Int.toNat ((l - l%128:Nat):Int) then o else o+(Int.toNat ((l - l%128:Nat):Int))*1) ((if cp=Int.toNat ((l - l%128:Nat):Int) then o else o+(Int.toNat ((l - l%128:Nat):Int))*1)+Nat.min (l - Int.toNat ((l - l%128:Nat):Int)) 256)).all (fun v=>v.oneCell')=true∧Calm.splice (wA .u8 256 []) 0 (a.extract (if cp=Int.toNat ((l - l%128:Nat):Int) then o else o+(Int.toNat ((l - l%128:Nat):Int))*1) ((if cp=Int.toNat ((l - l%128:Nat):Int) then o else o+(Int.toNat ((l - l%128:Nat):Int))*1)+Nat.min (l - Int.toNat ((l - l%128:Nat):Int)) 256))=(wA .u8 256 (bL a (if cp=Int.toNat ((l - l%128:Nat):Int) then o else o+(Int.toNat ((l - l%128:Nat):Int))*1) (l%128))))) (q6:((0:Int)≤((l%128:Nat):Int)∧(((l%128:Nat):Int):Int)<((256:Nat):Int))) (q7:((0+Int.toNat ((l%128:Nat):Int)*1)<(wA .u8 256 (bL a (if cp=Int.toNat ((l - l%128:Nat):Int) then o else o+(Int.toNat ((l - l%128:Nat):Int))*1) (l%128))).size∧(wA .u8 256 (bL a (if cp=Int.toNat ((l - l%128:Nat):Int) then o else o+(Int.toNat ((l - l%128:Nat):Int))*1) (l%128))).setIfInBounds (0+Int.toNat ((l%128:Nat):Int)*1) (.int .u8 128)=(wA .u8 256 ((bL a (if cp=Int.toNat ((l - l%128:Nat):Int) then o else o+(Int.toNat ((l - l%128:Nat):Int))*1) (l%128)) ++ [128])))) (q8:(True∧(IntKind.u64.wrap (l:Int))=(l:Int))) (q9:(True∧(IntKind.u64.wrap (8*(l:Int)))=((8*l:Nat):Int))) (h0:(decide (128<((l%128+17:Nat):Int)))=true) :Runs Tryd.prog (cAt [] (bdy Tryd.f29)) ⟨en5L_a a t o l cp,[(a,t)],c0,ch0⟩ (fun e s=>e= .ret∧∃ c ch,s=⟨en5L_b a t o l cp,[(a,t),((((((((((wA .u8 256 ((bL a (if cp=Int.toNat ((l - l%128:Nat):Int) then o else o+(Int.toNat ((l - l%128:Nat):Int))*1) (l%128)) ++ [128])).setIfInBounds 255 (.int .u8 (IntKind.u8.wrap (((8*l:Nat):Int) / 2 ^ (0))))).setIfInBounds 254 (.int .u8 (IntKind.u8.wrap (((8*l:Nat):Int) / 2 ^ (8))))).setIfInBounds 253 (.int .u8 (IntKind.u8.wrap (((8*l:Nat):Int) / 2 ^ (16))))).setIfInBounds 252 (.int .u8 (IntKind.u8.wrap (((8*l:Nat):Int) / 2 ^ (24))))).setIfInBounds 251 (.int .u8 (IntKind.u8.wrap (((8*l:Nat):Int) / 2 ^ (32))))).setIfInBounds 250 (.int .u8 (IntKind.u8.wrap (((8*l:Nat):Int) / 2 ^ (40))))).setIfInBounds 249 (.int .u8 (IntKind.u8.wrap (((8*l:Nat):Int) / 2 ^ (48))))).setIfInBounds 248 (.int .u8 (IntKind.u8.wrap (((8*l:Nat):Int) / 2 ^ (56))))),(5,(0,0)))],c,ch⟩) 1:=by
  refine(runs_ev mixed [some (.int .i64 ((l%128:Nat):Int)),some (.int .i64 ((l%128+1:Nat):Int)),some (.int .i64 ((l%128+17:Nat):Int)),some (.bool true),none,some (.int .i64 ((l - l%128:Nat):Int)),some (.agg (wA .u8 256 (bL a (if cp=Int.toNat ((l - l%128:Nat):Int) then o else o+(Int.toNat ((l - l%128:Nat):Int))*1) (l%128)))),some (.agg (wA .u8 256 ((bL a (if cp=Int.toNat ((l - l%128:Nat):Int) then o else o+(Int.toNat ((l - l%128:Nat):Int))*1) (l%128)) ++ [128]))),some (.int .u64 (l:Int)),some (.int .u64 ((8*l:Nat):Int))] (en5L_0 a t o l cp ) (tt6 ⟨(tt1 ⟨(tt5 (tt9 ⟨(tt1 ⟨(tt5 (tt9 ⟨(tt1 ⟨(tt5 (tt9 ⟨(tt1 ⟨(tt5 (tt9 ⟨(tt1 ⟨(tt5 (tt9 ⟨(tt1 ⟨(tt5 (tt9 ⟨(tt1 ⟨(tt5 (tt9 ⟨(tt1 ⟨(tt4 (tt9 ⟨⟨(tt2 ⟨⟨(tt2 ⟨⟨⟨(tt6 ⟨(tt4 ⟨(tt1 ⟨(tt1 ⟨(tt4 ⟨(tt4 trivial),q0⟩),q1⟩),q2⟩),⟨trivial,h0⟩⟩),⟨by decide,rfl,by decide,by decide⟩⟩),q3⟩,q4⟩,q5⟩),q6⟩,q7⟩),q8⟩,q9⟩)),(by decide)⟩),⟨by decide,by decide⟩⟩)),(by decide)⟩),⟨by decide,by decide⟩⟩)),(by decide)⟩),⟨by decide,by decide⟩⟩)),(by decide)⟩),⟨by decide,by decide⟩⟩)),(by decide)⟩),⟨by decide,by decide⟩⟩)),(by decide)⟩),⟨by decide,by decide⟩⟩)),(by decide)⟩),⟨by decide,by decide⟩⟩)),(by decide)⟩),⟨by decide,by decide⟩⟩)).mono ?_
  rintro e s ⟨rfl,rfl⟩
  exact⟨rfl,_,_,rfl⟩
def en5S_h (i:Nat):Hn:=⟨0,[],[],[],[]⟩
def en5S_a (a:Array Value) (t:Tq) (o l cp:Nat):List Value:= [.slice (some ⟨0,o,none⟩) l cp,.int .i64 128,.int .i64 16,undef,undef,undef,undef,undef,undef,undef,undef,undef,undef,undef,undef,undef,undef,undef,undef,undef,undef,undef,undef,undef,undef,undef,undef,undef,undef,undef,undef,undef,undef,undef,undef,undef,undef,undef,undef,undef,undef,undef,undef,undef,undef,undef,undef,undef,undef,undef,undef,undef,undef,undef,undef,undef,undef,undef]
def en5S_b (a:Array Value) (t:Tq) (o l cp:Nat):List Value:= [.slice (some ⟨0,o,none⟩) l cp,.int .i64 128,.int .i64 16,undef,undef,undef,.slice (some ⟨1,0,none⟩) 128 128,.int .i64 ((l%128:Nat):Int),.int .i64 128,.slice (some ⟨1,0,none⟩) 128 128,.int .u64 ((8*l:Nat):Int),.int .i64 7,.slice (some ⟨0,o,none⟩) l cp,.int .i64 (l:Int),.int .i64 128,.int .i64 ((l%128:Nat):Int),.int .i64 128,.int .i64 ((l%128:Nat):Int),.int .i64 ((l%128+1:Nat):Int),.int .i64 16,.int .i64 ((l%128+17:Nat):Int),.int .i64 128,.bool false,undef,undef,.int .i64 128,.slice (some ⟨1,0,none⟩) 128 128,.slice (some ⟨1,0,none⟩) 128 128,.slice (some ⟨0,o,none⟩) l cp,.slice (some ⟨0,o,none⟩) l cp,.int .i64 (l:Int),.int .i64 ((l%128:Nat):Int),.int .i64 ((l - l%128:Nat):Int),.slice (some ⟨0,(if cp=Int.toNat ((l - l%128:Nat):Int) then o else o+(Int.toNat ((l - l%128:Nat):Int))*1),none⟩) (l - Int.toNat ((l - l%128:Nat):Int)) (cp - Int.toNat ((l - l%128:Nat):Int)),.int .i64 ((Nat.min (l - Int.toNat ((l - l%128:Nat):Int)) 128:Nat):Int),.slice (some ⟨1,0,none⟩) 128 128,.int .i64 ((l%128:Nat):Int),.pointer (some ⟨1,0+Int.toNat ((l%128:Nat):Int)*1,none⟩),.slice (some ⟨0,o,none⟩) l cp,.int .i64 (l:Int),.int .u64 (l:Int),.int .u64 ((8*l:Nat):Int),.int .i64 8,.bool false,.int .i64 7,.slice (some ⟨1,0,none⟩) 128 128,.int .i64 128,.int .i64 127,.int .i64 7,.int .i64 120,.int .u64 ((8*l:Nat):Int),.int .i64 7,.int .i64 56,.int .u64 (((8*l:Nat):Int) / 2 ^ (56)),.int .u8 (IntKind.u8.wrap (((8*l:Nat):Int) / 2 ^ (56))),.pointer (some ⟨1,120,none⟩),.int .i64 8,.slice (some ⟨1,0,none⟩) 128 128]
set_option maxRecDepth 100000 in
theorem en5S_0 (a:Array Value) (t:Tq) (o l cp:Nat):evC (yty.enf tabS7 1) en5S_h (cAt [] (bdy Tryd.f29)) ⟨en5S_a a t o l cp,[(a,t)],True,[some (.int .i64 ((l%128:Nat):Int)),some (.int .i64 ((l%128+1:Nat):Int)),some (.int .i64 ((l%128+17:Nat):Int)),some (.bool false),some (.int .i64 ((l - l%128:Nat):Int)),some (.agg (wA .u8 128 (bL a (if cp=Int.toNat ((l - l%128:Nat):Int) then o else o+(Int.toNat ((l - l%128:Nat):Int))*1) (l%128)))),some (.agg (wA .u8 128 ((bL a (if cp=Int.toNat ((l - l%128:Nat):Int) then o else o+(Int.toNat ((l - l%128:Nat):Int))*1) (l%128)) ++ [128]))),some (.int .u64 (l:Int)),some (.int .u64 ((8*l:Nat):Int))]⟩=some (.ret,⟨en5S_b a t o l cp,[(a,t),((((((((((wA .u8 128 ((bL a (if cp=Int.toNat ((l - l%128:Nat):Int) then o else o+(Int.toNat ((l - l%128:Nat):Int))*1) (l%128)) ++ [128])).setIfInBounds 127 (.int .u8 (IntKind.u8.wrap (((8*l:Nat):Int) / 2 ^ (0))))).setIfInBounds 126 (.int .u8 (IntKind.u8.wrap (((8*l:Nat):Int) / 2 ^ (8))))).setIfInBounds 125 (.int .u8 (IntKind.u8.wrap (((8*l:Nat):Int) / 2 ^ (16))))).setIfInBounds 124 (.int .u8 (IntKind.u8.wrap (((8*l:Nat):Int) / 2 ^ (24))))).setIfInBounds 123 (.int .u8 (IntKind.u8.wrap (((8*l:Nat):Int) / 2 ^ (32))))).setIfInBounds 122 (.int .u8 (IntKind.u8.wrap (((8*l:Nat):Int) / 2 ^ (40))))).setIfInBounds 121 (.int .u8 (IntKind.u8.wrap (((8*l:Nat):Int) / 2 ^ (48))))).setIfInBounds 120 (.int .u8 (IntKind.u8.wrap (((8*l:Nat):Int) / 2 ^ (56))))),(5,(0,0)))],((((((((((((((((((((((((((((((((((((((((((((((((((((((((((((((((((((((((((((((((((((((((((((((((((((((((((((((((((((((((((((((((((((((((((((((((((((((((((((((((((((((((((((((True∧True)∧True)∧True)∧True)∧(((128:Int)≠0)∧(Int.tmod (l:Int) 128)=((l%128:Nat):Int)))∧True)∧True)∧True)∧True)∧(True∧(IntKind.i64.wrap (((l%128:Nat):Int)+1))=((l%128+1:Nat):Int)))∧True)∧(True∧(IntKind.i64.wrap (((l%128+1:Nat):Int)+16))=((l%128+17:Nat):Int)))∧True)∧(True∧(decide (128<((l%128+17:Nat):Int)))=false))∧True)∧((0:Int)≤128∧(128:Int)=128∧1*Int.toNat 128≤281474976710656∧Int.toNat 128≤9223372036854775807))∧True)∧True)∧True)∧True)∧True)∧True)∧(True∧(IntKind.i64.wrap ((l:Int) - ((l%128:Nat):Int)))=((l - l%128:Nat):Int)))∧(((0≤((l - l%128:Nat):Int))∧True)∧Int.toNat ((l - l%128:Nat):Int)≤l∧l≤cp))∧((0+Nat.min (l - Int.toNat ((l - l%128:Nat):Int)) 128≤(wA .u8 128 []).size∧(if cp=Int.toNat ((l - l%128:Nat):Int) then o else o+(Int.toNat ((l - l%128:Nat):Int))*1)+Nat.min (l - Int.toNat ((l - l%128:Nat):Int)) 128≤a.size)∧(a.extract (if cp=Int.toNat ((l - l%128:Nat):Int) then o else o+(Int.toNat ((l - l%128:Nat):Int))*1) ((if cp=Int.toNat ((l - l%128:Nat):Int) then o else o+(Int.toNat ((l - l%128:Nat):Int))*1)+Nat.min (l - Int.toNat ((l - l%128:Nat):Int)) 128)).all (fun v=>v.oneCell')=true∧Calm.splice (wA .u8 128 []) 0 (a.extract (if cp=Int.toNat ((l - l%128:Nat):Int) then o else o+(Int.toNat ((l - l%128:Nat):Int))*1) ((if cp=Int.toNat ((l - l%128:Nat):Int) then o else o+(Int.toNat ((l - l%128:Nat):Int))*1)+Nat.min (l - Int.toNat ((l - l%128:Nat):Int)) 128))=(wA .u8 128 (bL a (if cp=Int.toNat ((l - l%128:Nat):Int) then o else o+(Int.toNat ((l - l%128:Nat):Int))*1) (l%128)))))∧True)∧True)∧((0:Int)≤((l%128:Nat):Int)∧(((l%128:Nat):Int):Int)<((128:Nat):Int)))∧((0+Int.toNat ((l%128:Nat):Int)*1)<(wA .u8 128 (bL a (if cp=Int.toNat ((l - l%128:Nat):Int) then o else o+(Int.toNat ((l - l%128:Nat):Int))*1) (l%128))).size∧(wA .u8 128 (bL a (if cp=Int.toNat ((l - l%128:Nat):Int) then o else o+(Int.toNat ((l - l%128:Nat):Int))*1) (l%128))).setIfInBounds (0+Int.toNat ((l%128:Nat):Int)*1) (.int .u8 128)=(wA .u8 128 ((bL a (if cp=Int.toNat ((l - l%128:Nat):Int) then o else o+(Int.toNat ((l - l%128:Nat):Int))*1) (l%128)) ++ [128]))))∧True)∧True)∧(True∧(IntKind.u64.wrap (l:Int))=(l:Int)))∧(True∧(IntKind.u64.wrap (8*(l:Int)))=((8*l:Nat):Int)))∧True)∧True)∧True)∧True)∧True)∧True)∧True)∧True)∧True)∧True)∧True)∧True)∧True)∧((0:Int)≤0))∧True)∧((0:Int)≤127∧(127:Int)<((128:Nat):Int)))∧True)∧True)∧True)∧True)∧True)∧True)∧True)∧True)∧True)∧True)∧True)∧True)∧True)∧True)∧((0:Int)≤8))∧True)∧((0:Int)≤126∧(126:Int)<((128:Nat):Int)))∧True)∧True)∧True)∧True)∧True)∧True)∧True)∧True)∧True)∧True)∧True)∧True)∧True)∧True)∧((0:Int)≤16))∧True)∧((0:Int)≤125∧(125:Int)<((128:Nat):Int)))∧True)∧True)∧True)∧True)∧True)∧True)∧True)∧True)∧True)∧True)∧True)∧True)∧True)∧True)∧((0:Int)≤24))∧True)∧((0:Int)≤124∧(124:Int)<((128:Nat):Int)))∧True)∧True)∧True)∧True)∧True)∧True)∧True)∧True)∧True)∧True)∧True)∧True)∧True)∧True)∧((0:Int)≤32))∧True)∧((0:Int)≤123∧(123:Int)<((128:Nat):Int)))∧True)∧True)∧True)∧True)∧True)∧True)∧True)∧True)∧True)∧True)∧True)∧True)∧True)∧True)∧((0:Int)≤40))∧True)∧((0:Int)≤122∧(122:Int)<((128:Nat):Int)))∧True)∧True)∧True)∧True)∧True)∧True)∧True)∧True)∧True)∧True)∧True)∧True)∧True)∧True)∧((0:Int)≤48))∧True)∧((0:Int)≤121∧(121:Int)<((128:Nat):Int)))∧True)∧True)∧True)∧True)∧True)∧True)∧True)∧True)∧True)∧True)∧True)∧True)∧True)∧True)∧((0:Int)≤56))∧True)∧((0:Int)≤120∧(120:Int)<((128:Nat):Int)))∧True)∧True)∧True)∧True)∧True)∧True),[]⟩):=by kernel_rfl
set_option maxRecDepth 100000 in
theorem en5S_r (a:Array Value) (t:Tq) (o l cp:Nat)   (q0:(((128:Int)≠0)∧(Int.tmod (l:Int) 128)=((l%128:Nat):Int))) (q1:(True∧(IntKind.i64.wrap (((l%128:Nat):Int)+1))=((l%128+1:Nat):Int))) (q2:(True∧(IntKind.i64.wrap (((l%128+1:Nat):Int)+16))=((l%128+17:Nat):Int))) (q3:(True∧(IntKind.i64.wrap ((l:Int) - ((l%128:Nat):Int)))=((l - l%128:Nat):Int))) (q4:(((0≤((l - l%128:Nat):Int))∧True)∧Int.toNat ((l - l%128:Nat):Int)≤l∧l≤cp)) (q5:((0+Nat.min (l - Int.toNat ((l - l%128:Nat):Int)) 128≤(wA .u8 128 []).size∧(if cp=Int.toNat ((l - l%128:Nat):Int) then o else o+(Int.toNat ((l - l%128:Nat):Int))*1)+Nat.min (l - Int.toNat ((l - l%128:Nat):Int)) 128≤a.size)∧(a.extract (if cp=Int.toNat ((l - l%128:Nat):Int) then o else o+(Int.toNat ((l - l%128:Nat):Int))*1) ((if cp=Int.toNat ((l - l%128:Nat):Int) then o else o+(Int.toNat ((l - l%128:Nat):Int))*1)+Nat.min (l - Int.toNat ((l - l%128:Nat):Int)) 128)).all (fun v=>v.oneCell')=true∧Calm.splice (wA .u8 128 []) 0 (a.extract (if cp=Int.toNat ((l - l%128:Nat):Int) then o else o+(Int.toNat ((l - l%128:Nat):Int))*1) ((if cp=Int.toNat ((l - l%128:Nat):Int) then o else o+(Int.toNat ((l - l%128:Nat):Int))*1)+Nat.min (l - Int.toNat ((l - l%128:Nat):Int)) 128))=(wA .u8 128 (bL a (if cp=Int.toNat ((l - l%128:Nat):Int) then o else o+(Int.toNat ((l - l%128:Nat):Int))*1) (l%128))))) (q6:((0:Int)≤((l%128:Nat):Int)∧(((l%128:Nat):Int):Int)<((128:Nat):Int))) (q7:((0+Int.toNat ((l%128:Nat):Int)*1)<(wA .u8 128 (bL a (if cp=Int.toNat ((l - l%128:Nat):Int) then o else o+(Int.toNat ((l - l%128:Nat):Int))*1) (l%128))).size∧(wA .u8 128 (bL a (if cp=Int.toNat ((l - l%128:Nat):Int) then o else o+(Int.toNat ((l - l%128:Nat):Int))*1) (l%128))).setIfInBounds (0+Int.toNat ((l%128:Nat):Int)*1) (.int .u8 128)=(wA .u8 128 ((bL a (if cp=Int.toNat ((l - l%128:Nat):Int) then o else o+(Int.toNat ((l - l%128:Nat):Int))*1) (l%128)) ++ [128])))) (q8:(True∧(IntKind.u64.wrap (l:Int))=(l:Int))) (q9:(True∧(IntKind.u64.wrap (8*(l:Int)))=((8*l:Nat):Int))) (h0:(decide (128<((l%128+17:Nat):Int)))=false) :Runs Tryd.prog (cAt [] (bdy Tryd.f29)) ⟨en5S_a a t o l cp,[(a,t)],c0,ch0⟩ (fun e s=>e= .ret∧∃ c ch,s=⟨en5S_b a t o l cp,[(a,t),((((((((((wA .u8 128 ((bL a (if cp=Int.toNat ((l - l%128:Nat):Int) then o else o+(Int.toNat ((l - l%128:Nat):Int))*1) (l%128)) ++ [128])).setIfInBounds 127 (.int .u8 (IntKind.u8.wrap (((8*l:Nat):Int) / 2 ^ (0))))).setIfInBounds 126 (.int .u8 (IntKind.u8.wrap (((8*l:Nat):Int) / 2 ^ (8))))).setIfInBounds 125 (.int .u8 (IntKind.u8.wrap (((8*l:Nat):Int) / 2 ^ (16))))).setIfInBounds 124 (.int .u8 (IntKind.u8.wrap (((8*l:Nat):Int) / 2 ^ (24))))).setIfInBounds 123 (.int .u8 (IntKind.u8.wrap (((8*l:Nat):Int) / 2 ^ (32))))).setIfInBounds 122 (.int .u8 (IntKind.u8.wrap (((8*l:Nat):Int) / 2 ^ (40))))).setIfInBounds 121 (.int .u8 (IntKind.u8.wrap (((8*l:Nat):Int) / 2 ^ (48))))).setIfInBounds 120 (.int .u8 (IntKind.u8.wrap (((8*l:Nat):Int) / 2 ^ (56))))),(5,(0,0)))],c,ch⟩) 1:=by
  refine(runs_ev mixed [some (.int .i64 ((l%128:Nat):Int)),some (.int .i64 ((l%128+1:Nat):Int)),some (.int .i64 ((l%128+17:Nat):Int)),some (.bool false),some (.int .i64 ((l - l%128:Nat):Int)),some (.agg (wA .u8 128 (bL a (if cp=Int.toNat ((l - l%128:Nat):Int) then o else o+(Int.toNat ((l - l%128:Nat):Int))*1) (l%128)))),some (.agg (wA .u8 128 ((bL a (if cp=Int.toNat ((l - l%128:Nat):Int) then o else o+(Int.toNat ((l - l%128:Nat):Int))*1) (l%128)) ++ [128]))),some (.int .u64 (l:Int)),some (.int .u64 ((8*l:Nat):Int))] (en5S_0 a t o l cp ) (tt6 ⟨(tt1 ⟨(tt5 (tt9 ⟨(tt1 ⟨(tt5 (tt9 ⟨(tt1 ⟨(tt5 (tt9 ⟨(tt1 ⟨(tt5 (tt9 ⟨(tt1 ⟨(tt5 (tt9 ⟨(tt1 ⟨(tt5 (tt9 ⟨(tt1 ⟨(tt5 (tt9 ⟨(tt1 ⟨(tt4 (tt9 ⟨⟨(tt2 ⟨⟨(tt2 ⟨⟨⟨(tt6 ⟨(tt1 ⟨(tt1 ⟨(tt1 ⟨(tt4 ⟨(tt4 trivial),q0⟩),q1⟩),q2⟩),⟨trivial,h0⟩⟩),⟨by decide,rfl,by decide,by decide⟩⟩),q3⟩,q4⟩,q5⟩),q6⟩,q7⟩),q8⟩,q9⟩)),(by decide)⟩),⟨by decide,by decide⟩⟩)),(by decide)⟩),⟨by decide,by decide⟩⟩)),(by decide)⟩),⟨by decide,by decide⟩⟩)),(by decide)⟩),⟨by decide,by decide⟩⟩)),(by decide)⟩),⟨by decide,by decide⟩⟩)),(by decide)⟩),⟨by decide,by decide⟩⟩)),(by decide)⟩),⟨by decide,by decide⟩⟩)),(by decide)⟩),⟨by decide,by decide⟩⟩)).mono ?_
  rintro e s ⟨rfl,rfl⟩
  exact⟨rfl,_,_,rfl⟩
def en5N_h (i:Nat):Hn:=⟨0,[],[],[],[]⟩
def en5N_a:List Value:= [.slice none 0 0,.int .i64 128,.int .i64 16,undef,undef,undef,undef,undef,undef,undef,undef,undef,undef,undef,undef,undef,undef,undef,undef,undef,undef,undef,undef,undef,undef,undef,undef,undef,undef,undef,undef,undef,undef,undef,undef,undef,undef,undef,undef,undef,undef,undef,undef,undef,undef,undef,undef,undef,undef,undef,undef,undef,undef,undef,undef,undef,undef,undef]
def en5N_b:List Value:= [.slice none 0 0,.int .i64 128,.int .i64 16,undef,undef,undef,.slice (some ⟨0,0,none⟩) 128 128,.int .i64 0,.int .i64 128,.slice (some ⟨0,0,none⟩) 128 128,.int .u64 0,.int .i64 7,.slice none 0 0,.int .i64 0,.int .i64 128,.int .i64 0,.int .i64 128,.int .i64 0,.int .i64 1,.int .i64 16,.int .i64 17,.int .i64 128,.bool false,undef,undef,.int .i64 128,.slice (some ⟨0,0,none⟩) 128 128,.slice (some ⟨0,0,none⟩) 128 128,.slice none 0 0,.slice none 0 0,.int .i64 0,.int .i64 0,.int .i64 0,.slice none 0 0,.int .i64 0,.slice (some ⟨0,0,none⟩) 128 128,.int .i64 0,.pointer (some ⟨0,0,none⟩),.slice none 0 0,.int .i64 0,.int .u64 0,.int .u64 0,.int .i64 8,.bool false,.int .i64 7,.slice (some ⟨0,0,none⟩) 128 128,.int .i64 128,.int .i64 127,.int .i64 7,.int .i64 120,.int .u64 0,.int .i64 7,.int .i64 56,.int .u64 0,.int .u8 0,.pointer (some ⟨0,120,none⟩),.int .i64 8,.slice (some ⟨0,0,none⟩) 128 128]
set_option maxRecDepth 100000 in
theorem en5N_0:evC (yty.en tabS7) en5N_h (cAt [] (bdy Tryd.f29)) ⟨en5N_a,[],True,[]⟩=some (.ret,⟨en5N_b,[(((((((((((wA .u8 128 []).setIfInBounds 0 (.int .u8 128)).setIfInBounds 127 (.int .u8 0)).setIfInBounds 126 (.int .u8 0)).setIfInBounds 125 (.int .u8 0)).setIfInBounds 124 (.int .u8 0)).setIfInBounds 123 (.int .u8 0)).setIfInBounds 122 (.int .u8 0)).setIfInBounds 121 (.int .u8 0)).setIfInBounds 120 (.int .u8 0)),(5,(0,0)))],((((((((((((((((((((((((((((((((((((((((((((((((((((((((((((((((((((((((((((((((((((((((((((((((((((((((((((((((((((((((((((((((((((((((((((((((((((((((((((((((((((((((((((((True∧True)∧True)∧True)∧True)∧((128:Int)≠0))∧True)∧True)∧True)∧True)∧True)∧True)∧True)∧True)∧True)∧True)∧((0:Int)≤128∧(128:Int)=128∧1*Int.toNat 128≤281474976710656∧Int.toNat 128≤9223372036854775807))∧True)∧True)∧True)∧True)∧True)∧True)∧True)∧((((0:Int)≤0)∧True)∧0≤0∧0≤0))∧True)∧True)∧True)∧((0:Int)≤0∧(0:Int)<((128:Nat):Int)))∧True)∧True)∧True)∧True)∧True)∧True)∧True)∧True)∧True)∧True)∧True)∧True)∧True)∧True)∧True)∧True)∧True)∧True)∧((0:Int)≤0))∧True)∧((0:Int)≤127∧(127:Int)<((128:Nat):Int)))∧True)∧True)∧True)∧True)∧True)∧True)∧True)∧True)∧True)∧True)∧True)∧True)∧True)∧True)∧((0:Int)≤8))∧True)∧((0:Int)≤126∧(126:Int)<((128:Nat):Int)))∧True)∧True)∧True)∧True)∧True)∧True)∧True)∧True)∧True)∧True)∧True)∧True)∧True)∧True)∧((0:Int)≤16))∧True)∧((0:Int)≤125∧(125:Int)<((128:Nat):Int)))∧True)∧True)∧True)∧True)∧True)∧True)∧True)∧True)∧True)∧True)∧True)∧True)∧True)∧True)∧((0:Int)≤24))∧True)∧((0:Int)≤124∧(124:Int)<((128:Nat):Int)))∧True)∧True)∧True)∧True)∧True)∧True)∧True)∧True)∧True)∧True)∧True)∧True)∧True)∧True)∧((0:Int)≤32))∧True)∧((0:Int)≤123∧(123:Int)<((128:Nat):Int)))∧True)∧True)∧True)∧True)∧True)∧True)∧True)∧True)∧True)∧True)∧True)∧True)∧True)∧True)∧((0:Int)≤40))∧True)∧((0:Int)≤122∧(122:Int)<((128:Nat):Int)))∧True)∧True)∧True)∧True)∧True)∧True)∧True)∧True)∧True)∧True)∧True)∧True)∧True)∧True)∧((0:Int)≤48))∧True)∧((0:Int)≤121∧(121:Int)<((128:Nat):Int)))∧True)∧True)∧True)∧True)∧True)∧True)∧True)∧True)∧True)∧True)∧True)∧True)∧True)∧True)∧((0:Int)≤56))∧True)∧((0:Int)≤120∧(120:Int)<((128:Nat):Int)))∧True)∧True)∧True)∧True)∧True)∧True),[]⟩):=by kernel_rfl
set_option maxRecDepth 100000 in
theorem en5N_r     :Runs Tryd.prog (cAt [] (bdy Tryd.f29)) ⟨en5N_a,[],c0,ch0⟩ (fun e s=>e= .ret∧∃ c ch,s=⟨en5N_b,[(((((((((((wA .u8 128 []).setIfInBounds 0 (.int .u8 128)).setIfInBounds 127 (.int .u8 0)).setIfInBounds 126 (.int .u8 0)).setIfInBounds 125 (.int .u8 0)).setIfInBounds 124 (.int .u8 0)).setIfInBounds 123 (.int .u8 0)).setIfInBounds 122 (.int .u8 0)).setIfInBounds 121 (.int .u8 0)).setIfInBounds 120 (.int .u8 0)),(5,(0,0)))],c,ch⟩):=by
  refine(runs_ev mixed [] (en5N_0  ) (tt6 ⟨(tt1 ⟨(tt5 (tt9 ⟨(tt1 ⟨(tt5 (tt9 ⟨(tt1 ⟨(tt5 (tt9 ⟨(tt1 ⟨(tt5 (tt9 ⟨(tt1 ⟨(tt5 (tt9 ⟨(tt1 ⟨(tt5 (tt9 ⟨(tt1 ⟨(tt5 (tt9 ⟨(tt1 ⟨(tt9 (tt9 ⟨(tt3 ⟨(tt7 ⟨(tt1 (tt9 ⟨(tt4 trivial),(by decide)⟩)),⟨by decide,rfl,by decide,by decide⟩⟩),⟨(tt1 (by decide)),(by decide),(by decide)⟩⟩),⟨by decide,by decide⟩⟩)),(by decide)⟩),⟨by decide,by decide⟩⟩)),(by decide)⟩),⟨by decide,by decide⟩⟩)),(by decide)⟩),⟨by decide,by decide⟩⟩)),(by decide)⟩),⟨by decide,by decide⟩⟩)),(by decide)⟩),⟨by decide,by decide⟩⟩)),(by decide)⟩),⟨by decide,by decide⟩⟩)),(by decide)⟩),⟨by decide,by decide⟩⟩)),(by decide)⟩),⟨by decide,by decide⟩⟩)).mono ?_
  rintro e s ⟨rfl,rfl⟩
  exact⟨rfl,_,_,rfl⟩
end Go.Proofs.YtcfnjcacdmkgbaaDoor

set_option linter.unusedSimpArgs false
set_option linter.unusedVariables false
/-! What comes behind the last whole block: contracts. -/
namespace Go.Proofs.YtcfnjcacdmkgbaaDoor
open Go.RowKit Go.Ev
variable {c0:Prop} {ch0:List (Option Value)}
def lset (N:Nat) (L:List Int) (p:Nat) (x:Int):List Int:=(List.range N).map fun i=>if i=p then x else L.getD i 0
theorem lset_at {N p i:Nat} {L:List Int} {x:Int} (h:i<N):(lset N L p x).getD i 0=if i=p then x else L.getD i 0:=by
  simp[lset,List.getD_eq_getElem?_getD,h]
theorem wA_ext {k:IntKind} {N:Nat} {A:Array Value} {L:List Int} (hs:A.size=N) (h:∀ i,i<N→A[i]? =some (.int k (L.getD i 0))):A=wA k N L:=by
  apply Array.ext
  · rw[hs,wA_size]
  · intro i h1 h2
    have hi:i<N:=by rw[← hs];exact h1
    have e1:=h i hi
    have e2:=wA_at (k:=k) (L:=L) hi
    rw[Array.getElem?_eq_getElem h1] at e1
    rw[Array.getElem?_eq_getElem h2] at e2
    exact(Option.some.inj e1).trans (Option.some.inj e2).symm
theorem wA_put {k:IntKind} {N p:Nat} {L:List Int} {x:Int} (h:p<N):(wA k N L).setIfInBounds p (.int k x)=wA k N (lset N L p x):=by
  refine wA_ext (by rw[Array.size_setIfInBounds,wA_size]) (fun i hi=> ?_)
  rw[Array.getElem?_setIfInBounds,wA_size,lset_at hi]
  by_cases e:p=i
  · subst e;rw[if_pos rfl,if_pos h,if_pos rfl]
  · rw[if_neg e,wA_at hi,if_neg (fun h=>e h.symm)]
def pad8 (N:Nat) (L:List Int) (c:Int):List Int:=lset N (lset N (lset N (lset N (lset N (lset N (lset N (lset N L (N - 1) (IntKind.u8.wrap (c / 2 ^ 0))) (N - 2) (IntKind.u8.wrap (c / 2 ^ 8))) (N - 3) (IntKind.u8.wrap (c / 2 ^ 16))) (N - 4) (IntKind.u8.wrap (c / 2 ^ 24))) (N - 5) (IntKind.u8.wrap (c / 2 ^ 32))) (N - 6) (IntKind.u8.wrap (c / 2 ^ 40))) (N - 7) (IntKind.u8.wrap (c / 2 ^ 48))) (N - 8) (IntKind.u8.wrap (c / 2 ^ 56))
theorem bL_at {a:Array Value} {p r i:Nat}:(bL a p r).getD i 0=if i<r then iat a (p+i) else 0:=by
  unfold bL
  rw[List.getD_eq_getElem?_getD,List.getElem?_map]
  by_cases h:i<r
  · rw[List.getElem?_range h,if_pos h];rfl
  · rw[List.getElem?_eq_none (by simpa using h),if_neg h];rfl
theorem bL_len (a:Array Value) (p r:Nat):(bL a p r).length=r:=by simp[bL]
theorem cp_ok {a : Array Value} {p r N : Nat} (hb : bytesAt a p r) (hz : p + r ≤ a.size) (hr : r ≤ N) : (0 + r ≤ (wA .u8 N []).size ∧ p + r ≤ a.size) ∧ (a.extract p (p + r)).all (fun v => v.oneCell') = true ∧ Calm.splice (wA .u8 N []) 0 (a.extract p (p + r)) = wA .u8 N (bL a p r) := by
  have hsz:(a.extract p (p+r)).size=r:=by rw[Array.size_extract];omega
  have hat:∀ j,j<r→(a.extract p (p+r))[j]? =some (.int .u8 (iat a (p+j))):=fun j hj=>by
    rw[Array.getElem?_extract_of_lt (by omega),← (hb j hj).1,Array.getElem?_eq_getElem]
  refine⟨⟨by rw[wA_size];omega,hz⟩,?_,?_⟩
  · rw [Array.all_eq_true]
    intro i hi
    have:=hat i (by omega)
    rw[Array.getElem?_eq_getElem hi] at this
    rw[Option.some.inj this];rfl
  · refine wA_ext ?_ (fun i hi => ?_)
    · unfold Calm.splice
      simp[hsz,wA_size]
      omega
    · rw [bL_at]
      have hz2:(wA .u8 N [])[i]? =some (.int .u8 0):=by rw[wA_at hi];rfl
      unfold Calm.splice
      rw[List.getElem?_toArray,List.take_zero,List.nil_append,List.getElem?_append,Array.length_toList,hsz]
      by_cases h:i<r
      · rw[if_pos h,if_pos h,Array.getElem?_toList,hat i h]
      · rw [if_neg h, if_neg h, List.getElem?_drop, Array.getElem?_toList, Nat.zero_add]
        rw[show r+(i - r)=i by omega]
        exact hz2
theorem wu {n:Int} (h0:0≤n) (h1:n<18446744073709551616):IntKind.u64.wrap n=n:=by rw[IntKind.wrap_u64];omega
def tl2 (a:Array Value) (o l:Nat):List Int:=bL a (o+(l - l%64)) (l%64) ++ [128]
def endN2 (l:Nat):Nat:=if 64<l%64+9 then 128 else 64
def endC2 (a:Array Value) (o l:Nat):Array Value:=wA .u8 (endN2 l) (pad8 (endN2 l) (tl2 a o l) ((8*l:Nat):Int))
theorem en2_off {a:Array Value} {o l cp:Nat} (hc:l≤cp):bL a (if cp=Int.toNat ((l - l%64:Nat):Int) then o else o+(Int.toNat ((l - l%64:Nat):Int))*1) (l%64)=bL a (o+(l - l%64)) (l%64):=by
  rw[Int.toNat_natCast,Nat.mul_one]
  by_cases h:l%64=0
  · rw[h];rfl
  · have := Nat.mod_le l 64
    rw[if_neg (by omega)]
theorem en2_b {a:Array Value} {o l cp:Nat} (hb:bytesAt a o l) (hz:o+l≤a.size) (hc:l≤cp):bytesAt a (if cp=Int.toNat ((l - l%64:Nat):Int) then o else o+(Int.toNat ((l - l%64:Nat):Int))*1) (l%64)∧(if cp=Int.toNat ((l - l%64:Nat):Int) then o else o+(Int.toNat ((l - l%64:Nat):Int))*1)+l%64≤a.size:=by
  rw[Int.toNat_natCast,Nat.mul_one]
  have hle:=Nat.mod_le l 64
  by_cases h:l%64=0
  · rw [h]
    exact⟨fun j hj=>by omega,by split<;>omega⟩
  · rw [if_neg (by omega)]
    exact⟨hb.sub (by omega),by omega⟩
theorem End2_c (a:Array Value) (t:Tq) (o l cp:Nat) (hb:bytesAt a o l) (hz:o+l≤a.size) (hc:l≤cp) (hl:l<1152921504606846976):Makes Tryd.prog 29 [(a,t)] [.slice (some ⟨0,o,none⟩) l cp,.int .i64 64,.int .i64 8] (endC2 a o l) 5 (endN2 l) (endN2 l):=by
  have hle:=Nat.mod_le l 64
  have hlt:=Nat.mod_lt l (show 0<64 by decide)
  obtain⟨hb',hz'⟩:=en2_b hb hz hc
  have hmin:∀ N,l%64≤N→Nat.min (l - Int.toNat ((l - l%64:Nat):Int)) N=l%64:=fun N hN=>by
    show min _ _=_
    rw[Int.toNat_natCast];omega
  have q0:((64:Int)≠0)∧(Int.tmod (l:Int) 64)=((l%64:Nat):Int):=⟨by decide,by rw[Int.tmod_eq_emod_of_nonneg (by omega)];omega⟩
  have q1:True∧(IntKind.i64.wrap (((l%64:Nat):Int)+1))=((l%64+1:Nat):Int):=⟨trivial,by rw[wi (by omega) (by omega)];omega⟩
  have q2:True∧(IntKind.i64.wrap (((l%64+1:Nat):Int)+8))=((l%64+9:Nat):Int):=⟨trivial,by rw[wi (by omega) (by omega)];omega⟩
  have q3:True∧(IntKind.i64.wrap ((l:Int) - ((l%64:Nat):Int)))=((l - l%64:Nat):Int):=⟨trivial,by rw[wi (by omega) (by omega)];omega⟩
  have q4:((0≤((l - l%64:Nat):Int))∧True)∧Int.toNat ((l - l%64:Nat):Int)≤l∧l≤cp:=⟨(tt1 (by omega)),by omega,hc⟩
  have q8:True∧(IntKind.u64.wrap (l:Int))=(l:Int):=⟨trivial,wu (by omega) (by omega)⟩
  have q9:True∧(IntKind.u64.wrap (8*(l:Int)))=((8*l:Nat):Int):=⟨trivial,by rw[wu (by omega) (by omega)];omega⟩
  by_cases h:64<l%64+9
  · have eN : endN2 l = 128 := if_pos h
    unfold endC2
    rw[eN]
    refine makes_runs (fk:=1) Tryd.func29 (c:=bdy Tryd.f29) (by kernel_rfl) ⟨rfl,by decide⟩ rfl (r:=6) (by kernel_rfl) (en2L_r a t o l cp q0 q1 q2 q3 q4 (by rw[hmin 128 (by omega)];exact cp_ok hb' hz' (by omega)) ⟨by omega,by omega⟩ (wA_set (by rw[bL_len];omega) (by rw[bL_len];omega)) q8 q9 (decide_eq_true (by omega))) ?_
    rintro e s ⟨rfl,c,ch,hs⟩
    refine⟨rfl,1,by decide,by subst hs;rfl,?_⟩
    rw[wA_put (by decide),wA_put (by decide),wA_put (by decide),wA_put (by decide),wA_put (by decide),wA_put (by decide),wA_put (by decide),wA_put (by decide),en2_off hc] at hs
    subst hs
    rfl
  · have eN : endN2 l = 64 := if_neg h
    unfold endC2
    rw[eN]
    refine makes_runs (fk:=1) Tryd.func29 (c:=bdy Tryd.f29) (by kernel_rfl) ⟨rfl,by decide⟩ rfl (r:=6) (by kernel_rfl) (en2S_r a t o l cp q0 q1 q2 q3 q4 (by rw[hmin 64 (by omega)];exact cp_ok hb' hz' (by omega)) ⟨by omega,by omega⟩ (wA_set (by rw[bL_len];omega) (by rw[bL_len];omega)) q8 q9 (decide_eq_false (by omega))) ?_
    rintro e s ⟨rfl,c,ch,hs⟩
    refine⟨rfl,1,by decide,by subst hs;rfl,?_⟩
    rw[wA_put (by decide),wA_put (by decide),wA_put (by decide),wA_put (by decide),wA_put (by decide),wA_put (by decide),wA_put (by decide),wA_put (by decide),en2_off hc] at hs
    subst hs
    rfl
def nilL2:List Int:=pad8 64 [128] 0
theorem EndN2_c:Makes Tryd.prog 29 [] [.slice none 0 0,.int .i64 64,.int .i64 8] (wA .u8 64 nilL2) 5 64 64:=by
  refine makes_runs (fk:=0) Tryd.func29 (c:=bdy Tryd.f29) (by kernel_rfl) ⟨rfl,by decide⟩ rfl (r:=6) (by kernel_rfl) en2N_r ?_
  rintro e s ⟨rfl,c,ch,hs⟩
  refine⟨rfl,0,by decide,by subst hs;rfl,?_⟩
  subst hs
  kernel_rfl
def tl5 (a:Array Value) (o l:Nat):List Int:=bL a (o+(l - l%128)) (l%128) ++ [128]
def endN5 (l:Nat):Nat:=if 128<l%128+17 then 256 else 128
def endC5 (a:Array Value) (o l:Nat):Array Value:=wA .u8 (endN5 l) (pad8 (endN5 l) (tl5 a o l) ((8*l:Nat):Int))
theorem en5_off {a:Array Value} {o l cp:Nat} (hc:l≤cp):bL a (if cp=Int.toNat ((l - l%128:Nat):Int) then o else o+(Int.toNat ((l - l%128:Nat):Int))*1) (l%128)=bL a (o+(l - l%128)) (l%128):=by
  rw[Int.toNat_natCast,Nat.mul_one]
  by_cases h:l%128=0
  · rw[h];rfl
  · have := Nat.mod_le l 128
    rw[if_neg (by omega)]
theorem en5_b {a:Array Value} {o l cp:Nat} (hb:bytesAt a o l) (hz:o+l≤a.size) (hc:l≤cp):bytesAt a (if cp=Int.toNat ((l - l%128:Nat):Int) then o else o+(Int.toNat ((l - l%128:Nat):Int))*1) (l%128)∧(if cp=Int.toNat ((l - l%128:Nat):Int) then o else o+(Int.toNat ((l - l%128:Nat):Int))*1)+l%128≤a.size:=by
  rw[Int.toNat_natCast,Nat.mul_one]
  have hle:=Nat.mod_le l 128
  by_cases h:l%128=0
  · rw [h]
    exact⟨fun j hj=>by omega,by split<;>omega⟩
  · rw [if_neg (by omega)]
    exact⟨hb.sub (by omega),by omega⟩
theorem End5_c (a:Array Value) (t:Tq) (o l cp:Nat) (hb:bytesAt a o l) (hz:o+l≤a.size) (hc:l≤cp) (hl:l<1152921504606846976):Makes Tryd.prog 29 [(a,t)] [.slice (some ⟨0,o,none⟩) l cp,.int .i64 128,.int .i64 16] (endC5 a o l) 5 (endN5 l) (endN5 l):=by
  have hle:=Nat.mod_le l 128
  have hlt:=Nat.mod_lt l (show 0<128 by decide)
  obtain⟨hb',hz'⟩:=en5_b hb hz hc
  have hmin:∀ N,l%128≤N→Nat.min (l - Int.toNat ((l - l%128:Nat):Int)) N=l%128:=fun N hN=>by
    show min _ _=_
    rw[Int.toNat_natCast];omega
  have q0:((128:Int)≠0)∧(Int.tmod (l:Int) 128)=((l%128:Nat):Int):=⟨by decide,by rw[Int.tmod_eq_emod_of_nonneg (by omega)];omega⟩
  have q1:True∧(IntKind.i64.wrap (((l%128:Nat):Int)+1))=((l%128+1:Nat):Int):=⟨trivial,by rw[wi (by omega) (by omega)];omega⟩
  have q2:True∧(IntKind.i64.wrap (((l%128+1:Nat):Int)+16))=((l%128+17:Nat):Int):=⟨trivial,by rw[wi (by omega) (by omega)];omega⟩
  have q3:True∧(IntKind.i64.wrap ((l:Int) - ((l%128:Nat):Int)))=((l - l%128:Nat):Int):=⟨trivial,by rw[wi (by omega) (by omega)];omega⟩
  have q4:((0≤((l - l%128:Nat):Int))∧True)∧Int.toNat ((l - l%128:Nat):Int)≤l∧l≤cp:=⟨(tt1 (by omega)),by omega,hc⟩
  have q8:True∧(IntKind.u64.wrap (l:Int))=(l:Int):=⟨trivial,wu (by omega) (by omega)⟩
  have q9:True∧(IntKind.u64.wrap (8*(l:Int)))=((8*l:Nat):Int):=⟨trivial,by rw[wu (by omega) (by omega)];omega⟩
  by_cases h:128<l%128+17
  · have eN : endN5 l = 256 := if_pos h
    unfold endC5
    rw[eN]
    refine makes_runs (fk:=1) Tryd.func29 (c:=bdy Tryd.f29) (by kernel_rfl) ⟨rfl,by decide⟩ rfl (r:=6) (by kernel_rfl) (en5L_r a t o l cp q0 q1 q2 q3 q4 (by rw[hmin 256 (by omega)];exact cp_ok hb' hz' (by omega)) ⟨by omega,by omega⟩ (wA_set (by rw[bL_len];omega) (by rw[bL_len];omega)) q8 q9 (decide_eq_true (by omega))) ?_
    rintro e s ⟨rfl,c,ch,hs⟩
    refine⟨rfl,1,by decide,by subst hs;rfl,?_⟩
    rw[wA_put (by decide),wA_put (by decide),wA_put (by decide),wA_put (by decide),wA_put (by decide),wA_put (by decide),wA_put (by decide),wA_put (by decide),en5_off hc] at hs
    subst hs
    rfl
  · have eN : endN5 l = 128 := if_neg h
    unfold endC5
    rw[eN]
    refine makes_runs (fk:=1) Tryd.func29 (c:=bdy Tryd.f29) (by kernel_rfl) ⟨rfl,by decide⟩ rfl (r:=6) (by kernel_rfl) (en5S_r a t o l cp q0 q1 q2 q3 q4 (by rw[hmin 128 (by omega)];exact cp_ok hb' hz' (by omega)) ⟨by omega,by omega⟩ (wA_set (by rw[bL_len];omega) (by rw[bL_len];omega)) q8 q9 (decide_eq_false (by omega))) ?_
    rintro e s ⟨rfl,c,ch,hs⟩
    refine⟨rfl,1,by decide,by subst hs;rfl,?_⟩
    rw[wA_put (by decide),wA_put (by decide),wA_put (by decide),wA_put (by decide),wA_put (by decide),wA_put (by decide),wA_put (by decide),wA_put (by decide),en5_off hc] at hs
    subst hs
    rfl
def nilL5:List Int:=pad8 128 [128] 0
theorem EndN5_c:Makes Tryd.prog 29 [] [.slice none 0 0,.int .i64 128,.int .i64 16] (wA .u8 128 nilL5) 5 128 128:=by
  refine makes_runs (fk:=0) Tryd.func29 (c:=bdy Tryd.f29) (by kernel_rfl) ⟨rfl,by decide⟩ rfl (r:=6) (by kernel_rfl) en5N_r ?_
  rintro e s ⟨rfl,c,ch,hs⟩
  refine⟨rfl,0,by decide,by subst hs;rfl,?_⟩
  subst hs
  kernel_rfl
theorem makesS {P:Program} {f:FuncId} {cs C:Array Value} {t:Tq} {e:TypeId} {o l c n k:Nat} {v1 v2:Value} (h:Makes P f [(cs,t)] [.slice (some ⟨0,o,none⟩) l c,v1,v2] C e n k) (h1:np v1=true) (h2:np v2=true) {mem:List Mb} {i:Nat} (hm:mem[i]? =some (cs,t)) {w:World} {β:Nat→Nat} (hw:Has w β mem):Calls P f ([Value.slice (some ⟨i,o,none⟩) l c,v1,v2].map (rn β)).toArray w (fun e' w'=>∃ b,e'= .returned (.slice (some ⟨b,0,none⟩) n k)∧w.heap.size≤b∧w'.heap[b]? =some (.cells C e (0,0))∧Below w.heap.size w w'):=by
  have := h w (fun _ => β i) (fun j x hx => by
    cases j with
    | zero =>
      simp only[List.getElem?_cons_zero,Option.some.injEq] at hx
      subst hx
      exact hw i _ hm
    |succ j=>simp at hx) (fun i h=>by simp at h)
  simp only[List.map_cons,List.map_nil,rn_np h1,rn_np h2] at this ⊢
  exact this
def mEnd : Maker Tryd.prog where
  f:=29
  g := fun mem xs => match xs with
    | [.slice (some ⟨i, o, none⟩) l c, .int .i64 b, .int .i64 m] => (match mem[i]? with
      |some (a,_)=>if b=64∧m=8 then some (endC2 a o l,5,endN2 l,endN2 l,(bytesAt a o l∧o+l≤a.size∧l≤c∧l<1152921504606846976)) else if b=128∧m=16 then some (endC5 a o l,5,endN5 l,endN5 l,(bytesAt a o l∧o+l≤a.size∧l≤c∧l<1152921504606846976)) else none
      |none=>none)
    | [.slice none 0 0,.int .i64 b,.int .i64 m]=>if b=64∧m=8 then some (wA .u8 64 nilL2,5,64,64,True) else if b=128∧m=16 then some (wA .u8 128 nilL5,5,128,128,True) else none
    |_=>none
  ok := fun mem xs cs t n k c e hc w β hw _ => by
    split at e
    · rename_i i o l c0 b m
      split at e
      · rename_i a t0 hm
        split at e
        · rename_i hB
          obtain⟨rfl,rfl⟩:=hB
          simp only[Option.some.injEq,Prod.mk.injEq] at e
          obtain⟨rfl,rfl,rfl,rfl,rfl⟩:=e
          exact makesS (End2_c a t0 o l c0 hc.1 hc.2.1 hc.2.2.1 hc.2.2.2) rfl rfl hm hw
        · split at e
          · rename_i hB
            obtain⟨rfl,rfl⟩:=hB
            simp only[Option.some.injEq,Prod.mk.injEq] at e
            obtain⟨rfl,rfl,rfl,rfl,rfl⟩:=e
            exact makesS (End5_c a t0 o l c0 hc.1 hc.2.1 hc.2.2.1 hc.2.2.2) rfl rfl hm hw
          · cases e
      · cases e
    · split at e
      · rename_i hB
        obtain⟨rfl,rfl⟩:=hB
        simp only[Option.some.injEq,Prod.mk.injEq] at e
        obtain⟨rfl,rfl,rfl,rfl,rfl⟩:=e
        exact EndN2_c w β (fun j x hx=>by simp at hx) (fun i h=>by simp at h)
      · split at e
        · rename_i hB
          obtain⟨rfl,rfl⟩:=hB
          simp only[Option.some.injEq,Prod.mk.injEq] at e
          obtain⟨rfl,rfl,rfl,rfl,rfl⟩:=e
          exact EndN5_c w β (fun j x hx=>by simp at hx) (fun i h=>by simp at h)
        · cases e
    · cases e
  call:=call_of Tryd.func29 (by kernel_rfl) (by kernel_rfl)
end Go.Proofs.YtcfnjcacdmkgbaaDoor
