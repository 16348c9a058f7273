import Derived.Test.YtcfnjcacdmkgbaaDoorZMFwerShI1
import Derived.Test.YtcfnjcacdmkgbaaDoorZMFwerEvW1
set_option linter.unusedSimpArgs false
set_option linter.unusedVariables false
/-! Small facts for what vc.py prints. -/
namespace Go.Proofs.YtcfnjcacdmkgbaaDoor
open Go.RowKit Go.Ev
theorem src_wA {q:IntKind} {mem:List Mb} {i cap len:Nat} {N:List Int} {st:TypeId×(Nat×Nat)} {c:Nat} (hm:mem[i]? =some (wA q cap N,st)) (hl:len=N.length) (hc:N.length≤cap):SrcOk q mem (.slice (some ⟨i,0,none⟩) len c) N:=by
  subst hl
  refine⟨.inr ⟨i,0,c,_,_,rfl,hm,by rw[wA_size];omega,?_⟩⟩
  rw[wA_list q cap N hc]
  apply Array.ext'
  simp only[Array.toList_extract,List.extract_eq_take_drop,Nat.zero_add,Nat.sub_zero,List.drop_zero]
  rw[List.take_append_of_le_length (by simp[Go.Ev.iv]),List.take_of_length_le (by simp[Go.Ev.iv])]
theorem src_nil {q:IntKind} {mem:List Mb}:SrcOk q mem (.slice none 0 0) []:=⟨.inl ⟨rfl,rfl⟩⟩
theorem src_b {mem:List Mb} {i o l c:Nat} {a:Array Value} {st:TypeId×(Nat×Nat)} (hm:mem[i]? =some (a,st)) (hb:bytesAt a o l) (hz:o+l≤a.size):SrcOk .u8 mem (.slice (some ⟨i,o,none⟩) l c) (bL a o l):=by
  have hl:=bL_len a o l
  refine⟨.inr ⟨i,o,c,_,_,by rw[hl],hm,by rw[hl];exact hz,?_⟩⟩
  rw[hl]
  apply Array.ext_getElem?
  intro j
  by_cases hj:j<l
  · rw [Array.getElem?_extract_of_lt (by omega)]
    have h1:=(hb j hj).1
    rw[Array.getElem?_eq_getElem (by omega)] at h1
    have h2:=bL_at (a:=a) (p:=o) (r:=l) (i:=j)
    rw[if_pos hj,List.getD_eq_getElem?_getD,List.getElem?_eq_getElem (by omega)] at h2
    simp only[Go.Ev.iv,List.getElem?_toArray,List.getElem?_map]
    rw[List.getElem?_eq_getElem (by omega)]
    simp only[Option.getD_some] at h2
    simp only[Option.map_some,h2]
    exact h1
  · rw[Array.getElem?_eq_none (by simp only[Array.size_extract];omega),Array.getElem?_eq_none (by simp[Go.Ev.iv,hl];omega)]
end Go.Proofs.YtcfnjcacdmkgbaaDoor

set_option linter.unusedSimpArgs false
set_option linter.unusedVariables false
/-! The document's SHA-2: its small functions. -/
namespace Go.Proofs.YtcfnjcacdmkgbaaDoor
open Go.RowKit Go.Ev
theorem apB:ApT Tryd.prog 22 5 .u8 1:=⟨Tryd.underlying22,by kernel_rfl⟩
def cu2 (x:Int):Int:=IntKind.u64.wrap (x*2 ^ (32)) / 2 ^ (32)
def rg2 (x m:Int):Int:=(cu2 (IntKind.u64.wrap ((x / 2 ^ (min (Int.toNat (m:Int)) 64))+(IntKind.u64.wrap (x*2 ^ (min (Int.toNat (IntKind.i64.wrap (32 - (m:Int)))) 64))))))
def dmx2:Nat→Int→Int
  |0,x=>(bits .xor .u64 (bits .xor .u64 (rg2 x 2) (rg2 x 13)) (rg2 x 22))
  |1,x=>(bits .xor .u64 (bits .xor .u64 (rg2 x 6) (rg2 x 11)) (rg2 x 25))
  |2,x=>(bits .xor .u64 (bits .xor .u64 (rg2 x 7) (rg2 x 18)) (x / 2 ^ (3)))
  |_,x=>(bits .xor .u64 (bits .xor .u64 (rg2 x 17) (rg2 x 19)) (x / 2 ^ (10)))
def cu5 (x:Int):Int:=IntKind.u64.wrap (x*2 ^ (0)) / 2 ^ (0)
def rg5 (x m:Int):Int:=(cu5 (IntKind.u64.wrap ((x / 2 ^ (min (Int.toNat (m:Int)) 64))+(IntKind.u64.wrap (x*2 ^ (min (Int.toNat (IntKind.i64.wrap (64 - (m:Int)))) 64))))))
def dmx5:Nat→Int→Int
  |0,x=>(bits .xor .u64 (bits .xor .u64 (rg5 x 28) (rg5 x 34)) (rg5 x 39))
  |1,x=>(bits .xor .u64 (bits .xor .u64 (rg5 x 14) (rg5 x 18)) (rg5 x 41))
  |2,x=>(bits .xor .u64 (bits .xor .u64 (rg5 x 1) (rg5 x 8)) (x / 2 ^ (7)))
  |_,x=>(bits .xor .u64 (bits .xor .u64 (rg5 x 19) (rg5 x 61)) (x / 2 ^ (6)))
end Go.Proofs.YtcfnjcacdmkgbaaDoor
