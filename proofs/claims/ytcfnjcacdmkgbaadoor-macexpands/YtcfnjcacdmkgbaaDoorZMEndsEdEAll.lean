import Derived.Test.YtcfnjcacdmkgbaaDoorZMEndsEvAll
import Derived.Test.YtcfnjcacdmkgbaaDoorZMEndsEd2
import Derived.Test.YtcfnjcacdmkgbaaDoorZMEndsByteL
import Derived.Great.BuildSlice
set_option linter.unusedSimpArgs false
set_option linter.unusedVariables false
namespace Go.Proofs.YtcfnjcacdmkgbaaDoor
open Go.RowKit Go.Ev
def iv:Value→Int
  | .int _ n=>n
  |_=>0
def nm (a:Array Value):Int:=iv (a.getD 0 undef)+iv (a.getD 1 undef)*18446744073709551616+iv (a.getD 2 undef)*340282366920938463463374607431768211456+iv (a.getD 3 undef)*6277101735386680763835789423207666416102355444464034512896
def bv:Value→Bool
  | .bool b=>b
  |_=>false
def ds (a:Array Value):Sd:=⟨nm (a.extract 0 (0+4)),bv (a.getD 4 undef)⟩
def b6C (n:Int):Array Value:=((List.range 64).map fun j=>Value.int .u8 (byt n j)).toArray
def db (a:Array Value):Int:=numL (a.toList.map iv)
theorem iv_u8 (l:List Int):(l.map (Value.int .u8)).map iv=l:=by
  rw[List.map_map]
  have:(iv ∘ Value.int .u8)=id:=by funext x;rfl
  rw[this,List.map_id]
theorem db_byC (n:Int) (h:Ok n):db (byC n)=n:=by
  unfold db
  rw[byC_list]
  show numL (((byL 32 n).map (Value.int .u8)).map iv)=n
  rw[iv_u8]
  exact numL_byL 32 n h.1 (by rw[m4_256];exact h.2)
def byD:Cd:=⟨Int,byC,db,Ok,db_byC⟩
structure TyA where
  t:TypeId
  k:Nat
  ok:Calm.AggT Tryd.prog t k
def lookA:List TyA→TypeId→Option Nat
  | [],_=>none
  |x :: r,t=>if t=x.t then some x.k else lookA r t
theorem lookA_ok:∀(l:List TyA) (t:TypeId) (k:Nat),lookA l t=some k→Calm.AggT Tryd.prog t k
  | [],t,k,h=>by cases h
  | x :: r, t, k, h => by
    unfold lookA at h
    split at h
    · rename_i e
      injection h with h
      subst e h
      exact x.ok
    · exact lookA_ok r t k h
structure TyO where
  t:TypeId
  ok:Calm.OneT Tryd.prog t
def lookO:List TyO→TypeId→Bool
  | [],_=>false
  |x :: r,t=>if t=x.t then true else lookO r t
theorem lookO_ok:∀(l:List TyO) (t:TypeId),lookO l t=true→Calm.OneT Tryd.prog t
  | [],t,h=>by cases h
  | x :: r, t, h => by
    unfold lookO at h
    split at h
    · rename_i e
      subst e
      exact x.ok
    · exact lookO_ok r t h
structure TyZ where
  t:TypeId
  cs:Array Value
  ok:(Tryd.prog.info? t).bind (·.zero)=some (.agg cs)
def lookZ:List TyZ→TypeId→Option (Array Value)
  | [],_=>none
  |x :: r,t=>if t=x.t then some x.cs else lookZ r t
theorem zOk (x:TyZ) {t:TypeId} {cs:Array Value} (e1:t=x.t) (h:x.cs=cs):(Tryd.prog.info? t).bind (·.zero)=some (.agg cs):=by
  cases e1;cases h
  exact x.ok
theorem lookZ_ok:∀(l:List TyZ) (t:TypeId) (cs:Array Value),lookZ l t=some cs→(Tryd.prog.info? t).bind (·.zero)=some (.agg cs)
  | [],t,k,h=>by cases h
  | x :: r, t, k, h => by
    unfold lookZ at h
    split at h
    · rename_i e
      exact zOk x e (Option.some.inj h)
    · exact lookZ_ok r t k h
structure TyF where
  t:TypeId
  f:Nat
  off:Nat
  ok:∀ b o (w:World),(Instr.fieldAt t (.pointer (some ⟨b,o,none⟩)) f).run Tryd.prog w= .ok (.pointer (some ⟨b,o+off,none⟩)) w
theorem fOk (x:TyF) {t:TypeId} {f off:Nat} (e1:t=x.t) (e2:f=x.f) (h:x.off=off):∀ b o (w:World),(Instr.fieldAt t (.pointer (some ⟨b,o,none⟩)) f).run Tryd.prog w= .ok (.pointer (some ⟨b,o+off,none⟩)) w:=fun b o w=>by
  cases e1;cases e2;cases h
  exact x.ok b o w
def lookF:List TyF→TypeId→Nat→Option Nat
  | [],_,_=>none
  |x :: r,t,f=>if t=x.t∧f=x.f then some x.off else lookF r t f
theorem lookF_ok:∀(l:List TyF) (t:TypeId) (f off:Nat),lookF l t f=some off→∀ b o (w:World),(Instr.fieldAt t (.pointer (some ⟨b,o,none⟩)) f).run Tryd.prog w= .ok (.pointer (some ⟨b,o+off,none⟩)) w
  | [],t,f,off,h=>by cases h
  | x :: r, t, f, off, h => by
    unfold lookF at h
    split at h
    · rename_i e
      injection h with h
      exact fOk x e.1 e.2 h
    · exact lookF_ok r t f off h
def IxOk (t:TypeId) (n k:Nat):Prop:=∀ b o (q:IntKind) (j:Int) (w:World),0≤j→j<n→(Instr.indexAt t (.pointer (some ⟨b,o,none⟩)) (.int q j)).run Tryd.prog w= .ok (.pointer (some ⟨b,o+j.toNat*k,none⟩)) w
structure TyI where
  t:TypeId
  n:Nat
  k:Nat
  ok:IxOk t n k
theorem iOk (x:TyI) {t:TypeId} {n k:Nat} (e1:t=x.t) (h:(x.n,x.k)=(n,k)):IxOk t n k:=by
  cases e1;cases h
  exact x.ok
def lookI:List TyI→TypeId→Option (Nat×Nat)
  | [],_=>none
  |x :: r,t=>if t=x.t then some (x.n,x.k) else lookI r t
theorem lookI_ok:∀(l:List TyI) (t:TypeId) (n k:Nat),lookI l t=some (n,k)→IxOk t n k
  | [],t,n,k,h=>by cases h
  | x :: r, t, n, k, h => by
    unfold lookI at h
    split at h
    · rename_i e
      exact iOk x e (Option.some.inj h)
    · exact lookI_ok r t n k h
def iBy:TyI:=⟨25,32,1,fun b o q j w h0 h1=>by
  have h2:0≤j∧j<32:=⟨h0,h1⟩
  unfold Instr.indexAt
  go_simp⟩
def iB64:TyI:=⟨29,64,1,fun b o q j w h0 h1=>by
  have h2:0≤j∧j<64:=⟨h0,h1⟩
  unfold Instr.indexAt
  go_simp⟩
def iA2:TyI:=⟨42,8,1,fun b o q j w h0 h1=>by
  have h2:0≤j∧j<8:=⟨h0,h1⟩
  unfold Instr.indexAt
  go_simp⟩
def iA5:TyI:=⟨60,8,1,fun b o q j w h0 h1=>by
  have h2:0≤j∧j<8:=⟨h0,h1⟩
  unfold Instr.indexAt
  go_simp⟩
def iAW:TyI:=⟨64,64,1,fun b o q j w h0 h1=>by
  have h2:0≤j∧j<64:=⟨h0,h1⟩
  unfold Instr.indexAt
  go_simp⟩
def iAX:TyI:=⟨72,80,1,fun b o q j w h0 h1=>by
  have h2:0≤j∧j<80:=⟨h0,h1⟩
  unfold Instr.indexAt
  go_simp⟩
def iAE:TyI:=⟨59,8,1,fun b o q j w h0 h1=>by
  have h2:0≤j∧j<8:=⟨h0,h1⟩
  unfold Instr.indexAt
  go_simp⟩
def iK4:TyI:=⟨48,4,3,fun b o q j w h0 h1=>by
  have h2:0≤j∧j<4:=⟨h0,h1⟩
  unfold Instr.indexAt
  go_simp⟩
def iK3:TyI:=⟨47,3,1,fun b o q j w h0 h1=>by
  have h2:0≤j∧j<3:=⟨h0,h1⟩
  unfold Instr.indexAt
  go_simp⟩
def iA8:TyI:=⟨53,128,1,fun b o q j w h0 h1=>by
  have h2:0≤j∧j<128:=⟨h0,h1⟩
  unfold Instr.indexAt
  go_simp⟩
def tabI:List TyI:=iK4 :: iK3 :: iA8 :: iA2 :: iA5 :: iAW :: iAX :: iAE :: iBy :: iB64 :: []
def tI (t:TypeId):Option (Nat×Nat):=lookI tabI t
theorem tI_ok (t:TypeId) (n k:Nat) (h:tI t=some (n,k)) (b o:Nat) (q:IntKind) (j:Int) (w:World) (h0:0≤j) (h1:j<n):(Instr.indexAt t (.pointer (some ⟨b,o,none⟩)) (.int q j)).run Tryd.prog w= .ok (.pointer (some ⟨b,o+j.toNat*k,none⟩)) w:=lookI_ok tabI t n k h b o q j w h0 h1
def IsOk (t:TypeId) (k:Nat):Prop:=(∀ b o len cap (q:IntKind) (j:Int) (w:World),0≤j→j<(len:Nat)→(Instr.indexAt t (.slice (some ⟨b,o,none⟩) len cap) (.int q j)).run Tryd.prog w= .ok (.pointer (some ⟨b,o+j.toNat*k,none⟩)) w)∧∃ e,Tryd.prog.underlying t=some (.slice e)∧∀ w:World,(sizeOf e).run Tryd.prog w= .ok k w
structure TyIs where
  t:TypeId
  k:Nat
  ok:IsOk t k
theorem isOk (x:TyIs) {t:TypeId} {k:Nat} (e1:t=x.t) (h:x.k=k):IsOk t k:=by
  cases e1;cases h
  exact x.ok
def lookIs:List TyIs→TypeId→Option Nat
  | [],_=>none
  |x :: r,t=>if t=x.t then some x.k else lookIs r t
theorem lookIs_ok:∀(l:List TyIs) (t:TypeId) (k:Nat),lookIs l t=some k→IsOk t k
  | [],t,k,h=>by cases h
  | x :: r, t, k, h => by
    unfold lookIs at h
    split at h
    · rename_i e
      exact isOk x e (Option.some.inj h)
    · exact lookIs_ok r t k h
def isBy:TyIs:=⟨22,1,fun b o len cap q j w h0 h1=>by
  have h2:0≤j∧j<(len:Nat):=⟨h0,h1⟩
  unfold Instr.indexAt
  go_simp,⟨5,Tryd.underlying22,fun w=>by go_simp⟩⟩
def isU6:TyIs:=⟨68,1,fun b o len cap q j w h0 h1=>by
  have h2:0≤j∧j<(len:Nat):=⟨h0,h1⟩
  unfold Instr.indexAt
  go_simp,⟨58,Tryd.underlying68,fun w=>by go_simp⟩⟩
def isU:TyIs:=⟨68,1,fun b o len cap q j w h0 h1=>by
  have h2:0≤j∧j<(len:Nat):=⟨h0,h1⟩
  unfold Instr.indexAt
  go_simp,⟨58,Tryd.underlying68,fun w=>by go_simp⟩⟩
def tabIs:List TyIs:=isU6 :: isU :: isBy :: []
def tIs (t:TypeId):Option Nat:=lookIs tabIs t
theorem tIs_ok (t:TypeId) (k:Nat) (h:tIs t=some k) (b o:Nat) (len cap:Nat) (q:IntKind) (j:Int) (w:World) (h0:0≤j) (h1:j<(len:Nat)):(Instr.indexAt t (.slice (some ⟨b,o,none⟩) len cap) (.int q j)).run Tryd.prog w= .ok (.pointer (some ⟨b,o+j.toNat*k,none⟩)) w:=(lookIs_ok tabIs t k h).1 b o len cap q j w h0 h1
theorem tIs_sl (t:TypeId) (k:Nat) (h:tIs t=some k):∃ e,Tryd.prog.underlying t=some (.slice e):=by
  obtain⟨e,he,_⟩:=(lookIs_ok tabIs t k h).2
  exact⟨e,he⟩
def SlOk (t:TypeId) (n k:Nat):Prop:=∀ b o (lo hi:Option Value) (l h:Nat) (w:World),bnd lo 0=some l→bnd hi n=some h→l≤h→h≤n→l<n→(Instr.sliceAt t (.pointer (some ⟨b,o,none⟩)) lo hi none).run Tryd.prog w= .ok (.slice (some ⟨b,o+l*k,none⟩) (h - l) (n - l)) w
structure TySl where
  t:TypeId
  n:Nat
  k:Nat
  ok:SlOk t n k
theorem slOk (x:TySl) {t:TypeId} {n k:Nat} (e1:t=x.t) (h:(x.n,x.k)=(n,k)):SlOk t n k:=by
  cases e1;cases h
  exact x.ok
def lookSl:List TySl→TypeId→Option (Nat×Nat)
  | [],_=>none
  |x :: r,t=>if t=x.t then some (x.n,x.k) else lookSl r t
theorem lookSl_ok:∀(l:List TySl) (t:TypeId) (n k:Nat),lookSl l t=some (n,k)→SlOk t n k
  | [],t,n,k,h=>by cases h
  | x :: r, t, n, k, h => by
    unfold lookSl at h
    split at h
    · rename_i e
      exact slOk x e (Option.some.inj h)
    · exact lookSl_ok r t n k h
theorem add_0 (b o:Nat) (q:Nat):(⟨b,o,none⟩:Addr).add q=⟨b,o+q,none⟩:=by unfold Addr.add;split<;>simp_all
theorem bnd_cases {lo:Option Value} {d l:Nat} (h:bnd lo d=some l):(lo=none∧l=d)∨∃ q,lo=some (.int q (l:Int)):=by
  unfold bnd at h
  split at h
  · injection h with h;exact .inl ⟨rfl,h.symm⟩
  · rename_i _ q j
    split at h
    · rename_i hj
      injection h with h
      refine .inr ⟨q,?_⟩
      rw[← h,Int.toNat_of_nonneg hj]
    · cases h
  · cases h
theorem sl_of {t e:TypeId} {n k:Nat} (hu:Tryd.prog.underlying t=some (.array n e)) (he:∀ w:World,(sizeOf e).run Tryd.prog w= .ok k w):SlOk t n k:=by
  intro b o lo hi l h w hl hh h1 h2 h3
  have hne:¬ n=l:=by omega
  have sb:∀(q:IntKind) (m cap:Nat) (c:BoundsCode) (w:World),m≤cap→(Instr.sliceBound (.int q (m:Int)) cap c).run Tryd.prog w= .ok m w:=fun q m cap c w hm=>by
    rw[run_sliceBound _ _ _ _ _ (by omega) (by omega)]
    simp
  rcases bnd_cases hl with⟨rfl,rfl⟩|⟨q,rfl⟩<;>rcases bnd_cases hh with⟨rfl,rfl⟩|⟨q',rfl⟩
  all_goals
    simp[Instr.sliceAt,run_underlying hu,Instr.sureAddr,Instr.sliceBounds,sb,he,add_0,hne,h1,h2]
  all_goals first|done|omega|skip
theorem sls_of {t e:TypeId} {k:Nat} (hu:Tryd.prog.underlying t=some (.slice e)) (he:∀ w:World,(sizeOf e).run Tryd.prog w= .ok k w) (a:Option Addr) (len cap:Nat) (lo hi:Option Value) (l h:Nat) (w:World) (hl:bnd lo 0=some l) (hh:bnd hi len=some h) (h1:l≤h) (h2:h≤cap):(Instr.sliceAt t (.slice a len cap) lo hi none).run Tryd.prog w= .ok (.slice (if cap=l then a else a.map (·.add (l*k))) (h - l) (cap - l)) w:=by
  have sb:∀(q:IntKind) (m cap:Nat) (c:BoundsCode) (w:World),m≤cap→(Instr.sliceBound (.int q (m:Int)) cap c).run Tryd.prog w= .ok m w:=fun q m cap c w hm=>by
    rw[run_sliceBound _ _ _ _ _ (by omega) (by omega)]
    simp
  rcases bnd_cases hl with⟨rfl,rfl⟩|⟨q,rfl⟩<;>rcases bnd_cases hh with⟨rfl,rfl⟩|⟨q',rfl⟩
  all_goals
    simp[Instr.sliceAt,Instr.slice,run_underlying hu,Instr.sliceBounds,sb,he,h1,h2]
theorem tSL_ok (t:TypeId) (k:Nat) (h:tIs t=some k) (a:Option Addr) (len cap:Nat) (lo hi:Option Value) (l r:Nat) (w:World) (hl:bnd lo 0=some l) (hh:bnd hi len=some r) (h1:l≤r) (h2:r≤cap):(Instr.sliceAt t (.slice a len cap) lo hi none).run Tryd.prog w= .ok (.slice (if cap=l then a else a.map (·.add (l*k))) (r - l) (cap - l)) w:=by
  obtain⟨e,hu,he⟩:=(lookIs_ok tabIs t k h).2
  exact sls_of hu he a len cap lo hi l r w hl hh h1 h2
def slB6:TySl:=⟨29,64,1,sl_of Tryd.underlying29 (fun w=>by go_simp)⟩
def slBy:TySl:=⟨25,32,1,sl_of Tryd.underlying25 (fun w=>by go_simp)⟩
def slA8:TySl:=⟨53,128,1,sl_of Tryd.underlying53 (fun w=>by go_simp)⟩
def tabSl:List TySl:=slA8 :: slB6 :: slBy :: []
def tSl (t:TypeId):Option (Nat×Nat):=lookSl tabSl t
theorem tSl_ok (t:TypeId) (n k:Nat) (hh:tSl t=some (n,k)) (b o:Nat) (lo hi:Option Value) (l h:Nat) (w:World) (h1:bnd lo 0=some l) (h2:bnd hi n=some h) (h3:l≤h) (h4:h≤n) (h5:l<n):(Instr.sliceAt t (.pointer (some ⟨b,o,none⟩)) lo hi none).run Tryd.prog w= .ok (.slice (some ⟨b,o+l*k,none⟩) (h - l) (n - l)) w:=lookSl_ok tabSl t n k hh b o lo hi l h w h1 h2 h3 h4 h5
def CpOk (t:TypeId):Prop:=∃ e,Tryd.prog.underlying t=some (.slice e)∧(Tryd.prog.info? e).map (·.size)=some 1
structure TyCp where
  t:TypeId
  ok:CpOk t
theorem cpOk (x:TyCp) {t:TypeId} (e1:t=x.t):CpOk t:=by
  cases e1
  exact x.ok
def lookCp:List TyCp→TypeId→Bool
  | [],_=>false
  |x :: r,t=>if t=x.t then true else lookCp r t
theorem lookCp_ok:∀(l:List TyCp) (t:TypeId),lookCp l t=true→CpOk t
  | [],t,h=>by cases h
  | x :: r, t, h => by
    unfold lookCp at h
    split at h
    · rename_i e
      exact cpOk x e
    · exact lookCp_ok r t h
def cpBy:TyCp:=⟨22,⟨5,Tryd.underlying22,by kernel_rfl⟩⟩
def tabCp:List TyCp:=cpBy :: []
def tCp (t:TypeId):Bool:=lookCp tabCp t
theorem tCp_ok (t:TypeId) (h:tCp t=true):∃ e,Tryd.prog.underlying t=some (.slice e)∧(Tryd.prog.info? e).map (·.size)=some 1:=lookCp_ok tabCp t h
def MkOk (t e:TypeId) (z:Array Value) (k b:Nat):Prop:=Tryd.prog.underlying t=some (.slice e)∧(Tryd.prog.info? e).map (fun i=>(i.zero.map Value.cells,i.size,i.bytes))=some (some z,k,b)
structure TyMk where
  t:TypeId
  e:TypeId
  z:Array Value
  k:Nat
  b:Nat
  ok:MkOk t e z k b
def lookMk:List TyMk→TypeId→Option (TypeId×Array Value×Nat×Nat)
  | [],_=>none
  |x :: r,t=>if t=x.t then some (x.e,x.z,x.k,x.b) else lookMk r t
theorem mkOk (x:TyMk) {t e:TypeId} {z:Array Value} {k b:Nat} (e1:t=x.t) (h:(x.e,x.z,x.k,x.b)=(e,z,k,b)):MkOk t e z k b:=by
  cases e1;cases h
  exact x.ok
theorem lookMk_ok:∀(l:List TyMk) (t e:TypeId) (z:Array Value) (k b:Nat),lookMk l t=some (e,z,k,b)→MkOk t e z k b
  | [],t,e,z,k,b,h=>by cases h
  | x :: r, t, e, z, k, b, h => by
    unfold lookMk at h
    split at h
    · rename_i e1
      exact mkOk x e1 (Option.some.inj h)
    · exact lookMk_ok r t e z k b h
theorem mk_run {t e:TypeId} {z:Array Value} {k b:Nat} (h:MkOk t e z k b) (kl kc:IntKind) (n m:Nat) (w:World) (hnm:n≤m) (hb:b*m≤281474976710656) (h63:m≤9223372036854775807):(Instr.makeSlice t (.int kl n) (.int kc m)).run Tryd.prog w= .ok (.slice (some ⟨w.heap.size,0,none⟩) n m) (w.alloc (.cells (madeCells z (m*k)) e)):=by
  obtain⟨ht,hinfo⟩:=h
  obtain⟨i,hi,hzz⟩:=Option.map_eq_some_iff.1 hinfo
  simp only[Prod.mk.injEq] at hzz
  obtain⟨hz,hs,hbb⟩:=hzz
  obtain⟨zv,hz2,rfl⟩:=Option.map_eq_some_iff.1 hz
  subst hs hbb
  have hb':(i.bytes:Int)*(m:Int)≤281474976710656:=by
    have h:((i.bytes*m:Nat):Int)≤281474976710656:=by omega
    rwa[Int.natCast_mul] at h
  have hr:=run_make (P:=Tryd.prog) w t e i _ ht hi hz2 kl kc n m (by omega) (by omega) hb' (by omega)
  simp only[Int.toNat_natCast] at hr
  exact hr
def bsR (l:List TyMk) (t:TypeId) (len:Nat) (ps:List (Nat×Value)):Option (TypeId×Array Value):=match lookMk l t with
  |some (e,z,k,_)=>if len*k=0∧ps.isEmpty=true then some (e, #[]) else if len*k≤2 ^ 24∧len*k≠0 then(match Instr.fill (fun i=>some (i*k,k)) ((Array.range (len*k)).map (z[· %z.size]!)) ps with|some cs=>some (e,cs)|none=>none) else none
  |none=>none
theorem bs_run (l : List TyMk) (t : TypeId) (len : Nat) (ps : Array (Nat × Value)) (e : TypeId) (cs : Array Value) (h : bsR l t len ps.toList = some (e, cs)) (w : World) : (Instr.buildSlice t len ps).run Tryd.prog w = .ok (.slice (some ⟨w.heap.size, 0, none⟩) len len) (w.alloc (.cells cs e)) := by
  unfold bsR at h
  split at h
  · rename_i e' z k b hl
    obtain⟨ht,hinfo⟩:=lookMk_ok l t e' z k b hl
    obtain⟨i,hi,hzz⟩:=Option.map_eq_some_iff.1 hinfo
    simp only[Prod.mk.injEq] at hzz
    obtain⟨hz,hs,hbb⟩:=hzz
    obtain⟨zv,hz2,rfl⟩:=Option.map_eq_some_iff.1 hz
    subst hs hbb
    split at h
    · rename_i hc
      simp only[Option.some.injEq,Prod.mk.injEq] at h
      obtain⟨rfl,rfl⟩:=h
      have hp:ps.toList= []:=by simpa using hc.2
      simp[Instr.buildSlice,run_underlying ht,sizeOf,typeInfo,hi,hc.1,hp,newRow,Instr.fill]
      have hr:Array.range 0= #[]:=Array.eq_empty_of_size_eq_zero (by simp)
      rw[hr];simp
    split at h
    · rename_i hc
      split at h
      · rename_i cs' hf
        simp only[Option.some.injEq,Prod.mk.injEq] at h
        obtain⟨rfl,rfl⟩:=h
        exact run_buildSlice w t e' len ps cs' i _ ht hi hz2 (by omega) hc.2 hf
      · cases h
    · cases h
  · cases h
def mkBy:TyMk:=⟨22,5, #[.int .u8 0],1,1,⟨Tryd.underlying22,by kernel_rfl⟩⟩
def mkU6:TyMk:=⟨68,58, #[.int .u64 0],1,8,⟨Tryd.underlying68,by kernel_rfl⟩⟩
def tabMk:List TyMk:=mkU6 :: mkBy :: []
def tMk (t:TypeId):Option (TypeId×Array Value×Nat×Nat):=lookMk tabMk t
theorem tMk_ok (t e:TypeId) (z:Array Value) (k b:Nat) (h:tMk t=some (e,z,k,b)) (kl kc:IntKind) (n m:Nat) (w:World) (hnm:n≤m) (hb:b*m≤281474976710656) (h63:m≤9223372036854775807):(Instr.makeSlice t (.int kl n) (.int kc m)).run Tryd.prog w= .ok (.slice (some ⟨w.heap.size,0,none⟩) n m) (w.alloc (.cells (madeCells z (m*k)) e)):=mk_run (lookMk_ok tabMk t e z k b h) kl kc n m w hnm hb h63
def tBs (t:TypeId) (len:Nat) (ps:List (Nat×Value)):Option (TypeId×Array Value):=bsR tabMk t len ps
theorem tBs_ok (t:TypeId) (len:Nat) (ps:Array (Nat×Value)) (e:TypeId) (cs:Array Value) (h:tBs t len ps.toList=some (e,cs)) (w:World):(Instr.buildSlice t len ps).run Tryd.prog w= .ok (.slice (some ⟨w.heap.size,0,none⟩) len len) (w.alloc (.cells cs e)):=bs_run tabMk t len ps e cs h w
def CvOk (s d:TypeId):Prop:=∃ e,Tryd.prog.underlying s=some (.slice e)∧Tryd.prog.underlying e=some (.int .u8)∧Tryd.prog.underlying d=some .string
structure TyCv where
  s:TypeId
  d:TypeId
  ok:CvOk s d
def lookCv:List TyCv→TypeId→TypeId→Bool
  | [],_,_=>false
  |x :: r,s,d=>if s=x.s∧d=x.d then true else lookCv r s d
theorem lookCv_ok:∀(l:List TyCv) (s d:TypeId),lookCv l s d=true→CvOk s d
  | [],s,d,h=>by cases h
  | x :: r, s, d, h => by
    unfold lookCv at h
    split at h
    · rename_i e
      obtain⟨rfl,rfl⟩:=e
      exact x.ok
    · exact lookCv_ok r s d h
def cvS:TyCv:=⟨22,9,⟨5,Tryd.underlying22,Tryd.underlying5,Tryd.underlying9⟩⟩
def tabCv:List TyCv:=cvS :: []
structure TyCi where
  s:TypeId
  d:TypeId
  ok:s=d∧∃ e,Tryd.prog.underlying s=some (.slice e)∧Tryd.prog.underlying e=some (.int .u8)
def lookCi:List TyCi→TypeId→TypeId→Bool
  | [],_,_=>false
  |x :: r,s,d=>if s=x.s∧d=x.d then true else lookCi r s d
theorem lookCi_ok:∀(l:List TyCi) (s d:TypeId),lookCi l s d=true→s=d∧∃ e,Tryd.prog.underlying s=some (.slice e)∧Tryd.prog.underlying e=some (.int .u8)
  | [],s,d,h=>by cases h
  | x :: r, s, d, h => by
    unfold lookCi at h
    split at h
    · rename_i e
      obtain⟨rfl,rfl⟩:=e
      exact x.ok
    · exact lookCi_ok r s d h
def ciB:TyCi:=⟨22,22,rfl,5,Tryd.underlying22,Tryd.underlying5⟩
def tabCi:List TyCi:=ciB :: []
def tCi (s d:TypeId):Bool:=lookCi tabCi s d
theorem tCi_ok (s d:TypeId) (h:tCi s d=true):s=d∧∃ e,Tryd.prog.underlying s=some (.slice e)∧Tryd.prog.underlying e=some (.int .u8):=lookCi_ok tabCi s d h
def tCv (s d:TypeId):Bool:=lookCv tabCv s d
theorem tCv_ok (s d:TypeId) (h:tCv s d=true):∃ e,Tryd.prog.underlying s=some (.slice e)∧Tryd.prog.underlying e=some (.int .u8)∧Tryd.prog.underlying d=some .string:=lookCv_ok tabCv s d h
def yBy:TyA:=⟨25,32,⟨⟨_,Tryd.underlying25,rfl⟩,by kernel_rfl⟩⟩
def yB64:TyA:=⟨29,64,⟨⟨_,Tryd.underlying29,rfl⟩,by kernel_rfl⟩⟩
def yA2:TyA:=⟨42,8,⟨⟨_,Tryd.underlying42,rfl⟩,by kernel_rfl⟩⟩
def yA5:TyA:=⟨60,8,⟨⟨_,Tryd.underlying60,rfl⟩,by kernel_rfl⟩⟩
def yAW:TyA:=⟨64,64,⟨⟨_,Tryd.underlying64,rfl⟩,by kernel_rfl⟩⟩
def yAX:TyA:=⟨72,80,⟨⟨_,Tryd.underlying72,rfl⟩,by kernel_rfl⟩⟩
def yAE:TyA:=⟨59,8,⟨⟨_,Tryd.underlying59,rfl⟩,by kernel_rfl⟩⟩
def yKd:TyA:=⟨50,14,⟨⟨_,Tryd.underlying50,rfl⟩,by kernel_rfl⟩⟩
def yA8:TyA:=⟨53,128,⟨⟨_,Tryd.underlying53,rfl⟩,by kernel_rfl⟩⟩
def tabA:List TyA:=yKd :: yA8 :: yA2 :: yA5 :: yAW :: yAX :: yAE :: yBy :: yB64 :: []
def oB:TyO:=⟨4,⟨⟨_,Tryd.underlying4,rfl⟩,by kernel_rfl⟩⟩
def oU:TyO:=⟨5,⟨⟨_,Tryd.underlying5,rfl⟩,by kernel_rfl⟩⟩
def oI:TyO:=⟨3,⟨⟨_,Tryd.underlying3,rfl⟩,by kernel_rfl⟩⟩
def oEr:TyO:=⟨32,⟨⟨_,Tryd.underlying32,rfl⟩,by kernel_rfl⟩⟩
def oSt:TyO:=⟨9,⟨⟨_,Tryd.underlying9,rfl⟩,by kernel_rfl⟩⟩
def oU3:TyO:=⟨40,⟨⟨_,Tryd.underlying40,rfl⟩,by kernel_rfl⟩⟩
def oU6:TyO:=⟨58,⟨⟨_,Tryd.underlying58,rfl⟩,by kernel_rfl⟩⟩
def tabO:List TyO:=oU3 :: oU6 :: oSt :: oB :: oU :: oI :: oEr :: []
def zBy:TyZ:=⟨25,byC 0,by kernel_rfl⟩
def zB64:TyZ:=⟨29,b6C 0,by kernel_rfl⟩
def wA (k:IntKind) (n:Nat) (l:List Int):Array Value:=((List.range n).map (fun i=>Value.int k (l.getD i 0))).toArray
def zA2:TyZ:=⟨42,wA .u32 8 [],by kernel_rfl⟩
def zA5:TyZ:=⟨60,wA .u64 8 [],by kernel_rfl⟩
def zAW:TyZ:=⟨64,wA .u32 64 [],by kernel_rfl⟩
def zAX:TyZ:=⟨72,wA .u64 80 [],by kernel_rfl⟩
def zAE:TyZ:=⟨59,wA .u64 8 [],by kernel_rfl⟩
def zKd:TyZ:=⟨50,wA .i64 14 [],by kernel_rfl⟩
def zA8:TyZ:=⟨53,wA .u8 128 [],by kernel_rfl⟩
def tabZ:List TyZ:=zKd :: zA8 :: zA2 :: zA5 :: zAW :: zAX :: zAE :: zBy :: zB64 :: []
def fK0:TyF:=⟨50,0,0,fun b o w=>by go_simp⟩
def fK1:TyF:=⟨50,1,1,fun b o w=>by go_simp⟩
def fK2:TyF:=⟨50,2,2,fun b o w=>by go_simp⟩
def tabF:List TyF:=fK0 :: fK1 :: fK2 :: []
def tA (t:TypeId):Option Nat:=lookA tabA t
theorem tA_ok (t:TypeId) (k:Nat) (h:tA t=some k):Calm.AggT Tryd.prog t k:=lookA_ok tabA t k h
def tO (t:TypeId):Bool:=lookO tabO t
theorem tO_ok (t:TypeId) (h:tO t=true):Calm.OneT Tryd.prog t:=lookO_ok tabO t h
def tZ (t:TypeId):Option (Array Value):=lookZ tabZ t
theorem tZ_ok (t:TypeId) (cs:Array Value) (h:tZ t=some cs):(Tryd.prog.info? t).bind (·.zero)=some (.agg cs):=lookZ_ok tabZ t cs h
def tF (t:TypeId) (f:Nat):Option Nat:=lookF tabF t f
theorem tF_ok (t:TypeId) (f off:Nat) (h:tF t f=some off) (b o:Nat) (w:World):(Instr.fieldAt t (.pointer (some ⟨b,o,none⟩)) f).run Tryd.prog w= .ok (.pointer (some ⟨b,o+off,none⟩)) w:=lookF_ok tabF t f off h b o w
end Go.Proofs.YtcfnjcacdmkgbaaDoor

set_option linter.unusedSimpArgs false
set_option linter.unusedVariables false
namespace Go.Proofs.YtcfnjcacdmkgbaaDoor
open Go.RowKit Go.Ev
def EqR (t:TypeId) (u v:Value) (r:Bool):Prop:=∀(w:World) (x y:Operand),(eqGuard .eql t x y u v).run Tryd.prog w= .ok () w∧(eqGuard .neq t x y u v).run Tryd.prog w= .ok () w∧(binOp .eql t u v).run Tryd.prog w= .ok (.bool r) w∧(binOp .neq t u v).run Tryd.prog w= .ok (.bool !r) w
theorem guardBy:Tryd.prog.eqGuardType Tryd.prog.depth 25=false:=by kernel_rfl
theorem eqR_by {X Y:Int} (hX:Ok X) (hY:Ok Y):EqR 25 (.agg (byC X)) (.agg (byC Y)) (decide (X=Y)):=fun w x y=>by
  refine⟨Calm.run_guard w _ x y _ _ _ guardBy,Calm.run_guard w _ x y _ _ _ guardBy,?_,?_⟩
  · have := Calm.run_eql_ints w arrBy (byL 32 X) (byL 32 Y) (byL_length 32 X) (byL_length 32 Y)
    rwa[byL_inj hX hY,← byC_list,← byC_list] at this
  · have := Calm.run_neq_ints w arrBy (byL 32 X) (byL 32 Y) (byL_length 32 X) (byL_length 32 Y)
    rw[← byC_list,← byC_list] at this
    rw[this,← byL_inj hX hY]
theorem eqR_str (a b:ByteArray):EqR 9 (.string a) (.string b) (a.toList == b.toList):=fun w x y=>by
  refine⟨rfl,rfl,?_,?_⟩
  · go_simp
  · go_simp
theorem eqR_bool (a b:Bool):EqR 4 (.bool a) (.bool b) (a == b):=fun w x y=>by
  refine⟨rfl,rfl,?_,?_⟩
  · go_simp
  · go_simp
structure TyQ where
  t:TypeId
  d:Array Value→Array Value→Bool
  c:Array Value→Array Value→Prop
  ok:∀ a b,c a b→EqR t (.agg a) (.agg b) (d a b)
def qBy:TyQ:=⟨25,fun a b=>decide (db a=db b),fun a b=>byD.is a∧byD.is b,fun a b hc=>by
  obtain⟨⟨X,hX,rfl⟩,Y,hY,rfl⟩:=hc
  rw[show db (byD.enc X)=X from db_byC X hX,show db (byD.enc Y)=Y from db_byC Y hY]
  exact eqR_by hX hY⟩
theorem arrB6:Calm.ArrT Tryd.prog 29 64 .u8:=⟨⟨_,Tryd.underlying29,Tryd.underlying5,by kernel_rfl⟩,by kernel_rfl⟩
theorem guardB6:Tryd.prog.eqGuardType Tryd.prog.depth 29=false:=by kernel_rfl
def intOf:Value→Int
  | .int _ n=>n
  |_=>0
def intsOf (a:Array Value):List Int:=a.toList.map intOf
theorem intsOf_mk (L:List Int):intsOf (L.map (Value.int .u8)).toArray=L:=by
  simp[intsOf,intOf,Function.comp_def]
def isBL (n:Nat) (a:Array Value):Prop:=∃ L:List Int,L.length=n∧a=(L.map (Value.int .u8)).toArray
def qB6:TyQ:=⟨29,fun a b=>intsOf a == intsOf b,fun a b=>isBL 64 a∧isBL 64 b,fun a b hc=>by
  obtain⟨⟨X,hX,rfl⟩,Y,hY,rfl⟩:=hc
  rw[intsOf_mk,intsOf_mk]
  intro w x y
  refine⟨Calm.run_guard w _ x y _ _ _ guardB6,Calm.run_guard w _ x y _ _ _ guardB6,?_,?_⟩
  · exact Calm.run_eql_ints w arrB6 X Y hX hY
  · exact Calm.run_neq_ints w arrB6 X Y hX hY⟩
def tabQ:List TyQ:=qB6 :: qBy :: []
def lookQ:List TyQ→TypeId→Array Value→Array Value→Option (Bool×Prop)
  | [],_,_,_=>none
  |x :: r,t,a,b=>if t=x.t then some (x.d a b,x.c a b) else lookQ r t a b
theorem qOk (x:TyQ) {t:TypeId} {a b:Array Value} {r:Bool} {c:Prop} (e:t=x.t) (h:(x.d a b,x.c a b)=(r,c)) (hc:c):EqR t (.agg a) (.agg b) r:=by
  cases e;cases h
  exact x.ok a b hc
theorem lookQ_ok:∀(l:List TyQ) (t:TypeId) (a b:Array Value) (r:Bool) (c:Prop),lookQ l t a b=some (r,c)→c→EqR t (.agg a) (.agg b) r
  | [],_,_,_,_,_,h,_=>by cases h
  | x :: l, t, a, b, r, c, h, hc => by
    unfold lookQ at h
    split at h
    · rename_i e
      exact qOk x e (Option.some.inj h) hc
    · exact lookQ_ok l t a b r c h hc
def eqV (t:TypeId):Value→Value→Option (Bool×Prop)
  | .bool a,.bool b=>if t=4 then some (a == b,True) else none
  | .agg a,.agg b=>lookQ tabQ t a b
  | .string a,.string b=>if t=9 then some (a.toList == b.toList,True) else none
  |_,_=>none
theorem eqV_ok {t:TypeId} {u v:Value} {r:Bool} {c:Prop} (h:eqV t u v=some (r,c)) (hc:c):EqR t u v r:=by
  unfold eqV at h
  split at h
  · split at h
    · rename_i e
      simp only[Option.some.injEq,Prod.mk.injEq] at h
      rw[e,← h.1];exact eqR_bool _ _
    · cases h
  · exact lookQ_ok tabQ _ _ _ _ _ h hc
  · split at h
    · rename_i e
      simp only[Option.some.injEq,Prod.mk.injEq] at h
      rw[e,← h.1];exact eqR_str _ _
    · cases h
  · cases h
def iop (k:IntKind) (op:BinOp) (a b:Int):Option (Value×Prop):=match op with
  | .add=>some (.int k (k.wrap (a+b)),True)
  | .sub=>some (.int k (k.wrap (a - b)),True)
  | .mul=>some (.int k (k.wrap (a*b)),True)
  | .and=>some (.int k (bits .and k a b),True)
  | .or=>some (.int k (bits .or k a b),True)
  | .xor=>some (.int k (bits .xor k a b),True)
  | .andNot=>some (.int k (bits .andNot k a b),True)
  | .rem=>some (.int k (a.tmod b),b≠0)
  | .quo=>some (.int k (k.wrap (a.tdiv b)),b≠0)
  | .lss=>some (.bool (decide (a<b)),True)
  | .leq=>some (.bool (decide (a≤b)),True)
  | .gtr=>some (.bool (decide (b<a)),True)
  | .geq=>some (.bool (decide (b≤a)),True)
  | .eql=>some (.bool (decide (a=b)),True)
  | .neq=>some (.bool (!decide (a=b)),True)
  |_=>none
def IOk (t:TypeId) (k:IntKind):Prop:=∀(op:BinOp) (a b:Int) (v:Value) (c:Prop),iop k op a b=some (v,c)→c→∀ w:World,(binOp op t (.int k a) (.int k b)).run Tryd.prog w= .ok v w
theorem beqI (a b:Int):(a == b)=decide (a=b):=by
  by_cases h:a=b
  · rw[decide_eq_true h,h];simp
  · rw[decide_eq_false h];simp[h]
theorem bneI (a b:Int):(a != b)= !decide (a=b):=by
  show(!(a == b))=_
  rw[beqI]
structure TyK where
  t:TypeId
  k:IntKind
  ok:IOk t k
theorem ioU8:IOk 5 .u8:=by
  intro op a b v c h hc w
  cases op<;>simp only[iop,Option.some.injEq,Prod.mk.injEq,reduceCtorEq] at h
  all_goals(obtain⟨rfl,rfl⟩:=h;go_simp;try(first|exact beqI a b|exact bneI a b))
def kU8:TyK:=⟨5,.u8,ioU8⟩
theorem ioI:IOk 3 .i64:=by
  intro op a b v c h hc w
  cases op<;>simp only[iop,Option.some.injEq,Prod.mk.injEq,reduceCtorEq] at h
  all_goals(obtain⟨rfl,rfl⟩:=h;go_simp;try(first|exact beqI a b|exact bneI a b))
def kI:TyK:=⟨3,.i64,ioI⟩
theorem ioU64:IOk 58 .u64:=by
  intro op a b v c h hc w
  cases op<;>simp only[iop,Option.some.injEq,Prod.mk.injEq,reduceCtorEq] at h
  all_goals(obtain⟨rfl,rfl⟩:=h;go_simp;try(first|exact beqI a b|exact bneI a b))
def kU64:TyK:=⟨58,.u64,ioU64⟩
theorem ioU32:IOk 40 .u32:=by
  intro op a b v c h hc w
  cases op<;>simp only[iop,Option.some.injEq,Prod.mk.injEq,reduceCtorEq] at h
  all_goals(obtain⟨rfl,rfl⟩:=h;go_simp;try(first|exact beqI a b|exact bneI a b))
def kU32:TyK:=⟨40,.u32,ioU32⟩
theorem ioEr:IOk 32 .i64:=by
  intro op a b v c h hc w
  cases op<;>simp only[iop,Option.some.injEq,Prod.mk.injEq,reduceCtorEq] at h
  all_goals(obtain⟨rfl,rfl⟩:=h;go_simp;try(first|exact beqI a b|exact bneI a b))
def kEr:TyK:=⟨32,.i64,ioEr⟩
theorem ioUi:IOk 78 .u64:=by
  intro op a b v c h hc w
  cases op<;>simp only[iop,Option.some.injEq,Prod.mk.injEq,reduceCtorEq] at h
  all_goals(obtain⟨rfl,rfl⟩:=h;go_simp;try(first|exact beqI a b|exact bneI a b))
def kUi:TyK:=⟨78,.u64,ioUi⟩
def tabK:List TyK:=kUi :: kU8 :: kI :: kU64 :: kU32 :: kEr :: []
theorem kOk (x:TyK) {t:TypeId} {k k':IntKind} {op:BinOp} {a b:Int} {v:Value} {c:Prop} (e1:t=x.t) (e2:k=x.k) (e3:k'=x.k) (h:iop x.k op a b=some (v,c)) (hc:c) (w:World):(binOp op t (.int k a) (.int k' b)).run Tryd.prog w= .ok v w:=by
  cases e1;cases e2;cases e3
  exact x.ok op a b v c h hc w
def lookK:List TyK→TypeId→IntKind→IntKind→BinOp→Int→Int→Option (Value×Prop)
  | [],_,_,_,_,_,_=>none
  |x :: r,t,k,k',op,a,b=>if t=x.t∧k=x.k∧k'=x.k then iop x.k op a b else lookK r t k k' op a b
theorem lookK_ok:∀(l:List TyK) (t:TypeId) (k k':IntKind) (op:BinOp) (a b:Int) (v:Value) (c:Prop),lookK l t k k' op a b=some (v,c)→c→∀ w:World,(binOp op t (.int k a) (.int k' b)).run Tryd.prog w= .ok v w
  | [],_,_,_,_,_,_,_,_,h,_=>by cases h
  | x :: r, t, k, k', op, a, b, v, c, h, hc => by
    unfold lookK at h
    split at h
    · rename_i e
      exact kOk x e.1 e.2.1 e.2.2 h hc
    · exact lookK_ok r t k k' op a b v c h hc
def sop (k:IntKind) (n:Nat) (op:BinOp) (a s:Int):Option (Value×Prop):=match op with
  | .shr=>some (.int k (a / 2 ^ min s.toNat n),0≤s)
  | .shl=>some (.int k (k.wrap (a*2 ^ min s.toNat n)),0≤s)
  |_=>none
def SOk (t:TypeId) (k:IntKind) (n:Nat):Prop:=∀(op:BinOp) (a s:Int) (v:Value) (c:Prop),sop k n op a s=some (v,c)→c→∀ w:World,(binOp op t (.int k a) (.int .i64 s)).run Tryd.prog w= .ok v w∧(binOp op t (.int k a) (.int .u64 s)).run Tryd.prog w= .ok v w
structure TyS where
  t:TypeId
  k:IntKind
  n:Nat
  ok:SOk t k n
theorem soU8:SOk 5 .u8 8:=by
  intro op a b v c h hc w
  cases op<;>simp only[sop,Option.some.injEq,Prod.mk.injEq,reduceCtorEq] at h
  all_goals(obtain⟨rfl,rfl⟩:=h;constructor<;>go_simp)
def sU8:TyS:=⟨5,.u8,8,soU8⟩
theorem soU64:SOk 58 .u64 64:=by
  intro op a b v c h hc w
  cases op<;>simp only[sop,Option.some.injEq,Prod.mk.injEq,reduceCtorEq] at h
  all_goals(obtain⟨rfl,rfl⟩:=h;constructor<;>go_simp)
def sU64:TyS:=⟨58,.u64,64,soU64⟩
theorem soU32:SOk 40 .u32 32:=by
  intro op a b v c h hc w
  cases op<;>simp only[sop,Option.some.injEq,Prod.mk.injEq,reduceCtorEq] at h
  all_goals(obtain⟨rfl,rfl⟩:=h;constructor<;>go_simp)
def sU32:TyS:=⟨40,.u32,32,soU32⟩
theorem soI:SOk 3 .i64 64:=by
  intro op a b v c h hc w
  cases op<;>simp only[sop,Option.some.injEq,Prod.mk.injEq,reduceCtorEq] at h
  all_goals(obtain⟨rfl,rfl⟩:=h;constructor<;>go_simp)
def sI:TyS:=⟨3,.i64,64,soI⟩
def tabS:List TyS:=sI :: sU32 :: sU8 :: sU64 :: []
theorem sOk (x:TyS) {t:TypeId} {k:IntKind} {op:BinOp} {a b:Int} {v:Value} {c:Prop} (e1:t=x.t) (e2:k=x.k) (h:sop x.k x.n op a b=some (v,c)) (hc:c) (w:World):(binOp op t (.int k a) (.int .i64 b)).run Tryd.prog w= .ok v w∧(binOp op t (.int k a) (.int .u64 b)).run Tryd.prog w= .ok v w:=by
  cases e1;cases e2
  exact x.ok op a b v c h hc w
def lookS:List TyS→TypeId→IntKind→BinOp→Int→Int→Option (Value×Prop)
  | [],_,_,_,_,_=>none
  |x :: r,t,k,op,a,b=>if t=x.t∧k=x.k then sop x.k x.n op a b else lookS r t k op a b
theorem lookS_ok:∀(l:List TyS) (t:TypeId) (k:IntKind) (op:BinOp) (a b:Int) (v:Value) (c:Prop),lookS l t k op a b=some (v,c)→c→∀ w:World,(binOp op t (.int k a) (.int .i64 b)).run Tryd.prog w= .ok v w∧(binOp op t (.int k a) (.int .u64 b)).run Tryd.prog w= .ok v w
  | [],_,_,_,_,_,_,_,h,_=>by cases h
  | x :: r, t, k, op, a, b, v, c, h, hc => by
    unfold lookS at h
    split at h
    · rename_i e
      exact sOk x e.1 e.2 h hc
    · exact lookS_ok r t k op a b v c h hc
def COk (s d:TypeId) (k k':IntKind):Prop:=∀(a:Int) (w:World),(convert s d (.int k a)).run Tryd.prog w= .ok (.int k' (k'.wrap a)) w
structure TyC where
  s:TypeId
  d:TypeId
  k:IntKind
  k':IntKind
  ok:COk s d k k'
def c648:TyC:=⟨58,5,.u64,.u8,fun a w=>by go_simp⟩
def c3264:TyC:=⟨40,58,.u32,.u64,fun a w=>by go_simp⟩
def cIUi:TyC:=⟨3,78,.i64,.u64,fun a w=>by go_simp⟩
def c8u32:TyC:=⟨5,40,.u8,.u32,fun a w=>by go_simp⟩
def cI64:TyC:=⟨3,58,.i64,.u64,fun a w=>by go_simp⟩
def c328:TyC:=⟨40,5,.u32,.u8,fun a w=>by go_simp⟩
def c864:TyC:=⟨5,58,.u8,.u64,fun a w=>by go_simp⟩
def c8i:TyC:=⟨5,3,.u8,.i64,fun a w=>by go_simp⟩
def cI8:TyC:=⟨3,5,.i64,.u8,fun a w=>by go_simp⟩
def tabC:List TyC:=cI8 :: c8i :: cIUi :: c8u32 :: cI64 :: c328 :: c864 :: c648 :: c3264 :: []
theorem cOk (x:TyC) {s d:TypeId} {k:IntKind} {a:Int} {v:Value} (e1:s=x.s) (e2:d=x.d) (e3:k=x.k) (h:Value.int x.k' (x.k'.wrap a)=v) (w:World):(convert s d (.int k a)).run Tryd.prog w= .ok v w:=by
  cases e1;cases e2;cases e3;cases h
  exact x.ok a w
def lookC:List TyC→TypeId→TypeId→IntKind→Int→Option Value
  | [],_,_,_,_=>none
  |x :: r,s,d,k,a=>if s=x.s∧d=x.d∧k=x.k then some (.int x.k' (x.k'.wrap a)) else lookC r s d k a
theorem lookC_ok:∀(l:List TyC) (s d:TypeId) (k:IntKind) (a:Int) (v:Value),lookC l s d k a=some v→∀ w:World,(convert s d (.int k a)).run Tryd.prog w= .ok v w
  | [],_,_,_,_,_,h=>by cases h
  | x :: r, s, d, k, a, v, h => by
    unfold lookC at h
    split at h
    · rename_i e
      exact cOk x e.1 e.2.1 e.2.2 (Option.some.inj h)
    · exact lookC_ok r s d k a v h
def isSh:BinOp→Bool
  | .shl=>true
  | .shr=>true
  |_=>false
def tB (op : BinOp) (t : TypeId) (u v : Value) : Option (Value × Prop) := match u, v with
  | .int k a,.int k' b=>if isSh op then(match k' with| .i64=>lookS tabS t k op a b| .u64=>lookS tabS t k op a b|_=>none) else lookK tabK t k k' op a b
  | u, v => (match op with
    | .eql=>(match eqV t u v with|some (b,c)=>some (.bool b,c)|none=>none)
    | .neq=>(match eqV t u v with|some (b,c)=>some (.bool !b,c)|none=>none)
    |_=>none)
theorem guardI (op:BinOp) (t:TypeId) (x y:Operand) (k k':IntKind) (a b:Int) (w:World):(eqGuard op t x y (.int k a) (.int k' b)).run Tryd.prog w= .ok () w:=by
  cases op<;>rfl
theorem tB_ok {op : BinOp} {t : TypeId} {u v r : Value} {c : Prop} (h : tB op t u v = some (r, c)) (hc : c) (w : World) (x y : Operand) : (eqGuard op t x y u v).run Tryd.prog w = .ok () w ∧ (binOp op t u v).run Tryd.prog w = .ok r w := by
  unfold tB at h
  split at h
  · refine ⟨guardI _ _ _ _ _ _ _ _ w, ?_⟩
    split at h
    · split at h
      · exact(lookS_ok tabS _ _ _ _ _ _ _ h hc w).1
      · exact(lookS_ok tabS _ _ _ _ _ _ _ h hc w).2
      · cases h
    · exact lookK_ok tabK _ _ _ _ _ _ _ _ h hc w
  · split at h
    · split at h
      · rename_i hq
        simp only[Option.some.injEq,Prod.mk.injEq] at h
        obtain⟨rfl,rfl⟩:=h
        obtain⟨g1,g2,g3,g4⟩:=eqV_ok hq hc w x y
        exact⟨g1,g3⟩
      · cases h
    · split at h
      · rename_i hq
        simp only[Option.some.injEq,Prod.mk.injEq] at h
        obtain⟨rfl,rfl⟩:=h
        obtain⟨g1,g2,g3,g4⟩:=eqV_ok hq hc w x y
        exact⟨g2,g4⟩
      · cases h
    · cases h
def lookN (k:IntKind) (a:Int):Option (Value×Prop):=match k with
  | .u32=>some (.int .u32 (bits .xor .u32 4294967295 a),True)
  | .u64=>some (.int .u64 (bits .xor .u64 18446744073709551615 a),True)
  |_=>none
theorem lookN_ok (k:IntKind) (a:Int) (v:Value) (c:Prop) (h:lookN k a=some (v,c)) (w:World):(Op.unary .xor (.int k a)).run Tryd.prog w= .ok v w:=by
  unfold lookN at h
  split at h
  · simp only [Option.some.injEq, Prod.mk.injEq] at h
    obtain⟨rfl,rfl⟩:=h
    rfl
  · simp only [Option.some.injEq, Prod.mk.injEq] at h
    obtain⟨rfl,rfl⟩:=h
    rfl
  · cases h
def lookM1 (k:IntKind) (a:Int):Option (Value×Prop):=match k with
  | .u8=>some (.int .u8 (IntKind.u8.wrap (0 - a)),True)
  | .u64=>some (.int .u64 (IntKind.u64.wrap (0 - a)),True)
  |_=>none
theorem lookM1_ok (k:IntKind) (a:Int) (v:Value) (c:Prop) (h:lookM1 k a=some (v,c)) (w:World):(Op.unary .neg (.int k a)).run Tryd.prog w= .ok v w:=by
  unfold lookM1 at h
  split at h
  · simp only [Option.some.injEq, Prod.mk.injEq] at h
    obtain⟨rfl,rfl⟩:=h
    rfl
  · simp only [Option.some.injEq, Prod.mk.injEq] at h
    obtain⟨rfl,rfl⟩:=h
    rfl
  · cases h
def XOk (t:TypeId) (n:Nat):Prop:=∀(cs:Array Value) (q:IntKind) (j:Int) (v:Value),0≤j→j<n→cs[j.toNat]? =some v→∀ w:World,(Instr.index t (.agg cs) (.int q j)).run Tryd.prog w= .ok v w
structure TyX where
  t:TypeId
  n:Nat
  ok:XOk t n
theorem xOk (x:TyX) {t:TypeId} {n:Nat} (e1:t=x.t) (h:x.n=n):XOk t n:=by
  cases e1;cases h
  exact x.ok
def lookX:List TyX→TypeId→Option Nat
  | [],_=>none
  |x :: r,t=>if t=x.t then some x.n else lookX r t
theorem lookX_ok:∀(l:List TyX) (t:TypeId) (n:Nat),lookX l t=some n→XOk t n
  | [],t,n,h=>by cases h
  | x :: r, t, n, h => by
    unfold lookX at h
    split at h
    · rename_i e
      exact xOk x e (Option.some.inj h)
    · exact lookX_ok r t n h
def tabX:List TyX:= []
def lookXc (t:TypeId) (u v:Value):Option (Value×Prop):=match u,v with
  | .agg cs,.int _ j=>(match lookX tabX t with|some n=>some (.int .u8 (intOf (cs.getD j.toNat undef)),((0≤j∧j<(n:Int))∧cs[j.toNat]? =some (.int .u8 (intOf (cs.getD j.toNat undef)))))|none=>none)
  |_,_=>none
theorem lookXc_ok {t:TypeId} {u v r:Value} {c:Prop} (h:lookXc t u v=some (r,c)) (hc:c) (w:World):(Instr.index t u v).run Tryd.prog w= .ok r w:=by
  unfold lookXc at h
  split at h
  · split at h
    · rename_i n hn
      simp only[Option.some.injEq,Prod.mk.injEq] at h
      obtain⟨rfl,rfl⟩:=h
      exact lookX_ok tabX t n hn _ _ _ _ hc.1.1 hc.1.2 hc.2 w
    · cases h
  · cases h
def lookMn (u v:Value):Option (Value×Prop):=match u,v with
  | .int .i64 x,.int .i64 y=>some (.int .i64 ((Nat.min x.toNat y.toNat:Nat):Int),0≤x∧0≤y)
  |_,_=>none
theorem lookMn_ok {u v r:Value} {c:Prop} (h:lookMn u v=some (r,c)) (hc:c) (ts:Array TypeId) (ty:TypeId) (w:World):(Builtin.min_ ts ty #[u,v]).run Tryd.prog w= .ok r w:=by
  unfold lookMn at h
  split at h
  · rename_i x y
    simp only[Option.some.injEq,Prod.mk.injEq] at h
    obtain⟨rfl,rfl⟩:=h
    have e:(if y<x then y else x)=((Nat.min x.toNat y.toNat:Nat):Int):=by
      show _=((min x.toNat y.toNat:Nat):Int)
      split<;>omega
    simp[Builtin.min_,Builtin.min2,e]
  · cases h
def tU (o:Op) (ρ:Operand→Value):Option (Value×Prop):=match o with
  | .call ⟨.builtin .min,xs,ts⟩=>(match xs.toList with| [x,y]=>if opk x && opk y && np (ρ x) && np (ρ y) then lookMn (ρ x) (ρ y) else none|_=>none)
  | .unOp .neg t x=>if opk x then(match ρ x with| .int k a=>lookM1 k a|_=>none) else none
  | .index t x i=>if opk x && opk i && np (ρ x) && np (ρ i) then lookXc t (ρ x) (ρ i) else none
  | .binOp op t x y _=>if opk x && opk y && np (ρ x) && np (ρ y) then tB op t (ρ x) (ρ y) else none
  | .unOp .xor t x=>if opk x then(match ρ x with| .int k a=>lookN k a|_=>none) else none
  | .convert s d x=>if opk x then(match ρ x with| .int k a=>(match lookC tabC s d k a with|some v=>some (v,True)|none=>none)|_=>none) else none
  |_=>none
theorem tU_ok (o : Oper) (ρ ρ' : Operand → Value) (v : Value) (c : Prop) (h : tU o.op ρ = some (v, c)) (hc : c) (hE : ∀ x, opk x = true → np (ρ x) = true → ρ' x = ρ x) (w : World) : (execOp ρ' o).run Tryd.prog w = .ok (.value v) w := by
  obtain⟨dst,op,ty,pos,after,guard⟩:=o
  unfold tU at h
  split at h
  · rename_i xs ts e
    simp only at e
    subst e
    split at h
    · rename_i x y ea
      have ea:xs= #[x,y]:=Array.ext' (by rw[ea])
      subst ea
      split at h
      · rename_i hk
        simp only[Bool.and_eq_true] at hk
        have this:∀ q ty',invoke (.builtin .min ts ty' q) #[ρ x,ρ y]=(do pure (.value (← Builtin.min_ ts ty' #[ρ x,ρ y]))):=fun q ty'=>rfl
        unfold execOp resolve
        simp only[List.map_toArray,List.map_cons,List.map_nil,hE x hk.1.1.1 hk.1.2,hE y hk.1.1.2 hk.2,Sem.run_bind,Sem.run_pure,Result.andThen_ok]
        rw[this]
        simp only[Sem.run_bind,lookMn_ok h hc,Sem.run_pure,Result.andThen_ok]
      · cases h
    · cases h
  · rename_i t x e
    simp only at e
    subst e
    split at h
    · rename_i hk
      split at h
      · rename_i k a e2
        have hx:=hE x hk (by rw[e2];rfl)
        unfold execOp
        simp only[hx,e2,lookM1_ok _ _ _ _ h w,Sem.run_bind,Result.andThen_ok,Sem.run_pure]
      · cases h
    · cases h
  · rename_i t x i e
    simp only at e
    subst e
    split at h
    · rename_i hk
      simp only[Bool.and_eq_true] at hk
      unfold execOp
      simp only[hE x hk.1.1.1 hk.1.2,hE i hk.1.1.2 hk.2,lookXc_ok h hc w,Sem.run_bind,Result.andThen_ok,Sem.run_pure]
    · cases h
  · rename_i op' t x y u e
    simp only at e
    subst e
    split at h
    · rename_i hk
      simp only[Bool.and_eq_true] at hk
      obtain⟨g1,g3⟩:=tB_ok h hc w x y
      unfold execOp
      simp only[hE x hk.1.1.1 hk.1.2,hE y hk.1.1.2 hk.2,Sem.run_bind,g1,g3,Result.andThen_ok,Sem.run_pure]
    · cases h
  · rename_i t x e
    simp only at e
    subst e
    split at h
    · rename_i hk
      split at h
      · rename_i k a e2
        have hx:=hE x hk (by rw[e2];rfl)
        unfold execOp
        simp only[hx,e2,lookN_ok _ _ _ _ h w,Sem.run_bind,Result.andThen_ok,Sem.run_pure]
      · cases h
    · cases h
  · rename_i s d x e
    simp only at e
    subst e
    split at h
    · rename_i hk
      split at h
      · rename_i k a e2
        split at h
        · rename_i u hl
          simp only[Option.some.injEq,Prod.mk.injEq] at h
          obtain⟨rfl,rfl⟩:=h
          have hx:=hE x hk (by rw[e2];rfl)
          unfold execOp
          simp only[hx,e2,lookC_ok tabC _ _ _ _ _ hl w,Sem.run_bind,Result.andThen_ok,Sem.run_pure]
        · cases h
      · cases h
    · cases h
  · cases h
def yty:Ty Tryd.prog:=⟨tA,tA_ok,tO,tO_ok,tF,tF_ok,tZ,tZ_ok,tI,tI_ok,tIs,tIs_ok,tIs_sl,tSl,tSl_ok,tSL_ok,tCp,tCp_ok,tCv,tCv_ok,tCi,tCi_ok,tBs,tBs_ok,tMk,tMk_ok,tU,tU_ok⟩
theorem mixed:Tryd.prog.follows .mixedOrders=true:=by kernel_rfl
end Go.Proofs.YtcfnjcacdmkgbaaDoor
