import Derived.Test.YtcfnjcacdmkgbaaDoorZMFwerSdD1
import Derived.Test.YtcfnjcacdmkgbaaDoorZMFwerSdC1
import Derived.Test.YtcfnjcacdmkgbaaDoorZMFwerByA1
import Derived.Test.YtcfnjcacdmkgbaaDoorZMFwerShK1
set_option linter.unusedSimpArgs false
set_option linter.unusedVariables false
/-! The document's SHA-2: Sum256 and Sum512. -/
namespace Go.Proofs.YtcfnjcacdmkgbaaDoor
open Go.RowKit Go.Ev
def bytesOf (mem : List Mb) (bp : Option Addr) (l : Nat) : List Int := match bp with
  | some ⟨i, o, _⟩ => (match mem[i]? with
    |some x=>bL x.1 o l
    |none=> [])
  |none=> []
theorem tk_step {L:List Int} {i:Nat} (h:i<L.length):L.take i ++ [L.getD i 0]=L.take (i+1):=by
  rw[List.getD_eq_getElem?_getD,List.getElem?_eq_getElem h,Option.getD_some,List.take_append_getElem h]
def sh2 (N:List Int):List Int:=oL2 [(hsD2 (ful2 N) ((ful2 N).length / 64)).a,(hsD2 (ful2 N) ((ful2 N).length / 64)).b,(hsD2 (ful2 N) ((ful2 N).length / 64)).c,(hsD2 (ful2 N) ((ful2 N).length / 64)).d,(hsD2 (ful2 N) ((ful2 N).length / 64)).e,(hsD2 (ful2 N) ((ful2 N).length / 64)).f,(hsD2 (ful2 N) ((ful2 N).length / 64)).g,(hsD2 (ful2 N) ((ful2 N).length / 64)).h] 32
theorem sh2_len (N:List Int):(sh2 N).length=32:=oL2_len _ _
theorem ful2_mul (N:List Int) (h:N.length≤1000000000):(ful2 N).length=64*((ful2 N).length / 64):=by
  rw[ful2_len];omega
theorem sum2_sh {a:Array Value} {o l:Nat} (hb:bytesAt a o l) (hl:l≤1000000000):sum2 a o l=sh2 (bL a o l):=
  (sumq2 hb hl (ful2_mul _ (by rw[bL_len];exact hl)) rfl).symm
variable {a:Array Value} {t:Tq} {bp:Option Addr} {l cp:Nat} {N:List Int}
variable {c3:Nat}
variable {i:Nat} {Y:List Int}
def sh5 (N:List Int):List Int:=oL5 [(hsD5 (ful5 N) ((ful5 N).length / 128)).a,(hsD5 (ful5 N) ((ful5 N).length / 128)).b,(hsD5 (ful5 N) ((ful5 N).length / 128)).c,(hsD5 (ful5 N) ((ful5 N).length / 128)).d,(hsD5 (ful5 N) ((ful5 N).length / 128)).e,(hsD5 (ful5 N) ((ful5 N).length / 128)).f,(hsD5 (ful5 N) ((ful5 N).length / 128)).g,(hsD5 (ful5 N) ((ful5 N).length / 128)).h] 64
theorem sh5_len (N:List Int):(sh5 N).length=64:=oL5_len _ _
theorem ful5_mul (N:List Int) (h:N.length≤1000000000):(ful5 N).length=128*((ful5 N).length / 128):=by
  rw[ful5_len];omega
theorem sum5_sh {a:Array Value} {o l:Nat} (hb:bytesAt a o l) (hl:l≤1000000000):sum5 a o l=sh5 (bL a o l):=
  (sumq5 hb hl (ful5_mul _ (by rw[bL_len];exact hl)) rfl).symm
end Go.Proofs.YtcfnjcacdmkgbaaDoor

set_option linter.unusedSimpArgs false
set_option linter.unusedVariables false
/-! Sha256, Sha512: the laws. -/
namespace Go.Proofs.YtcfnjcacdmkgbaaDoor
open Go.RowKit Go.Ev
theorem ext_bL {a:Array Value} {o l:Nat} (hb:bytesAt a o l) (hz:o+l≤a.size):a.extract o (o+l)=(Go.Ev.iv .u8 (bL a o l)).toArray:=by
  rcases(src_b (mem:= [(a,(0,0,0))]) (i:=0) (c:=l) rfl hb hz).h with⟨h,_⟩|⟨j,p,c,src,st,h1,h2,h3,h4⟩
  · cases h
  · rw [bL_len] at h1 h4
    cases h1
    cases h2
    exact h4
theorem b8_ext {a:Array Value} {o l:Nat} (hb:bytesAt a o l) (hz:o+l≤a.size):(a.extract o (o+l)).all isB8=true:=by
  rw[ext_bL hb hz]
  rw[Array.all_eq_true']
  intro v hv
  have hv:v ∈ Go.Ev.iv .u8 (bL a o l):=by simpa using hv
  obtain⟨x,hx,rfl⟩:=List.mem_map.1 hv
  obtain⟨j,hj,rfl⟩:=List.mem_map.1 hx
  have hj:j<l:=by simpa using hj
  have:=(hb j hj).2
  simp[isB8,this.1,this.2]
theorem sh2_bt (N:List Int):∀ x ∈ sh2 N,0≤x∧x<256:=fun x hx=>by
  unfold sh2 oL2 at hx
  obtain⟨i,hi,rfl⟩:=List.mem_map.1 hx
  rw[IntKind.wrap_u8]
  omega
theorem sh5_bt (N:List Int):∀ x ∈ sh5 N,0≤x∧x<256:=fun x hx=>by
  unfold sh5 oL5 at hx
  obtain⟨i,hi,rfl⟩:=List.mem_map.1 hx
  rw[IntKind.wrap_u8]
  omega
end Go.Proofs.YtcfnjcacdmkgbaaDoor
