import Derived.Test.YtmpjlammofgicaaDoorZMNhtsSdD1
import Derived.Test.YtmpjlammofgicaaDoorZMNhtsSdO
import Derived.Test.YtmpjlammofgicaaDoorZMNhtsSdC1
import Derived.Test.YtmpjlammofgicaaDoorZMNhtsByA1
import Derived.Test.YtmpjlammofgicaaDoorZMNhtsShK1
set_option linter.unusedSimpArgs false
set_option linter.unusedVariables false
/-! The document's SHA-2: Sum256 and Sum512. -/
namespace Go.Proofs.YtmpjlammofgicaaDoor
open Go.RowKit Go.Ev
def bytesOf (mem : List Mb) (bp : Option Addr) (l : Nat) : List Int := match bp with
  | some ⟨i, o, _⟩ => (match mem[i]? with
    |some x=>bL x.1 o l
    |none=> [])
  |none=> []
theorem tk_step {L:List Int} {i:Nat} (h:i<L.length):L.take i ++ [L.getD i 0]=L.take (i+1):=by
  rw[List.getD_eq_getElem?_getD,List.getElem?_eq_getElem h,Option.getD_some,List.take_append_getElem h]
def sh2 (N:List Int):List Int:=oL2 [(hsD2 (ful2 N) ((ful2 N).length / 64)).a,(hsD2 (ful2 N) ((ful2 N).length / 64)).b,(hsD2 (ful2 N) ((ful2 N).length / 64)).c,(hsD2 (ful2 N) ((ful2 N).length / 64)).d,(hsD2 (ful2 N) ((ful2 N).length / 64)).e,(hsD2 (ful2 N) ((ful2 N).length / 64)).f,(hsD2 (ful2 N) ((ful2 N).length / 64)).g,(hsD2 (ful2 N) ((ful2 N).length / 64)).h] 32
theorem sh2_len (N:List Int):(sh2 N).length=32:=oL2_len _ _
theorem ful2_mul (N:List Int) (h:N.length≤1000000000):(ful2 N).length=64*((ful2 N).length / 64):=by
  rw[ful2_len];omega
theorem sum2_sh {a:Array Value} {o l:Nat} (hb:bytesAt a o l) (hl:l≤1000000000):sum2 a o l=sh2 (bL a o l):=
  (sumq2 hb hl (ful2_mul _ (by rw[bL_len];exact hl)) rfl).symm
def sh5 (N:List Int):List Int:=oL5 [(hsD5 (ful5 N) ((ful5 N).length / 128)).a,(hsD5 (ful5 N) ((ful5 N).length / 128)).b,(hsD5 (ful5 N) ((ful5 N).length / 128)).c,(hsD5 (ful5 N) ((ful5 N).length / 128)).d,(hsD5 (ful5 N) ((ful5 N).length / 128)).e,(hsD5 (ful5 N) ((ful5 N).length / 128)).f,(hsD5 (ful5 N) ((ful5 N).length / 128)).g,(hsD5 (ful5 N) ((ful5 N).length / 128)).h] 64
theorem sh5_len (N:List Int):(sh5 N).length=64:=oL5_len _ _
theorem ful5_mul (N:List Int) (h:N.length≤1000000000):(ful5 N).length=128*((ful5 N).length / 128):=by
  rw[ful5_len];omega
theorem sum5_sh {a:Array Value} {o l:Nat} (hb:bytesAt a o l) (hl:l≤1000000000):sum5 a o l=sh5 (bL a o l):=
  (sumq5 hb hl (ful5_mul _ (by rw[bL_len];exact hl)) rfl).symm
end Go.Proofs.YtmpjlammofgicaaDoor

set_option linter.unusedSimpArgs false
set_option linter.unusedVariables false
/-! Sha256, Sha512: the laws. -/
namespace Go.Proofs.YtmpjlammofgicaaDoor
open Go.RowKit Go.Ev
theorem wA_iv {n:Nat} {L:List Int} (h:L.length=n):wA .u8 n L=(L.map (Value.int .u8)).toArray:=by
  have:=wA_list .u8 n L (by omega)
  rw[this,h,Nat.sub_self]
  simp[Go.Ev.iv]
theorem by_is {L:List Int} (hl:L.length=32) (h:∀ x ∈ L,0≤x∧x<256):byD.is (wA .u8 32 L):=by
  have h1:=numL_bd L h
  have h2:=byL_numL L h
  rw[hl] at h1 h2
  refine⟨numL L,⟨h1.1,by rw[← m4_256];exact h1.2⟩,?_⟩
  rw[wA_iv hl]
  show _=byC (numL L)
  have e:byC (numL L)=((byL 32 (numL L)).map (Value.int .u8)).toArray:=rfl
  rw[e,h2]
theorem sh2_bt (N:List Int):∀ x ∈ sh2 N,0≤x∧x<256:=fun x hx=>by
  unfold sh2 oL2 at hx
  obtain⟨i,hi,rfl⟩:=List.mem_map.1 hx
  rw[IntKind.wrap_u8]
  omega
theorem sh5_bt (N:List Int):∀ x ∈ sh5 N,0≤x∧x<256:=fun x hx=>by
  unfold sh5 oL5 at hx
  obtain⟨i,hi,rfl⟩:=List.mem_map.1 hx
  rw[IntKind.wrap_u8]
  omega
end Go.Proofs.YtmpjlammofgicaaDoor
