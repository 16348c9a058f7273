import Derived.Test.YtbjllhcjbblojaaZRSardRiTBll
set_option linter.unusedSimpArgs false
set_option linter.unusedVariables false
/-! The standard's bytes. -/
namespace Go.Proofs.Ytbjllhcjbblojaa
open Go.RowKit Go.Ev
def std0 : ByteArray := ⟨#[0, 0, 0, 0, 0, 0, 0, 0, 0, 0, 0, 0, 0, 0, 0, 0, 0, 0, 0, 0, 0, 0, 0, 0, 0, 0, 0, 0, 0, 0, 0, 0]⟩
def std1 : ByteArray := ⟨#[226, 242, 174, 10, 106, 188, 78, 113, 168, 132, 169, 97, 197, 0, 81, 95, 88, 227, 11, 106, 165, 130, 221, 141, 182, 166, 89, 69, 224, 141, 45, 118]⟩
def std2 : ByteArray := ⟨#[106, 73, 50, 16, 247, 73, 156, 209, 127, 236, 181, 16, 174, 12, 234, 35, 161, 16, 232, 213, 185, 1, 248, 172, 173, 211, 9, 92, 115, 163, 185, 25]⟩
def std3 : ByteArray := ⟨#[148, 116, 31, 93, 93, 82, 117, 94, 206, 79, 35, 240, 68, 238, 39, 213, 209, 234, 30, 43, 209, 150, 180, 98, 22, 107, 22, 21, 42, 157, 2, 89]⟩
theorem by_b8 (n : Int) : (byC n).all isB8 = true := by
  rw [byC_list, List.all_toArray, List.all_map]
  refine List.all_eq_true.2 fun x hx => ?_
  obtain ⟨j, _, rfl⟩ := List.mem_map.1 hx
  have := byt_bd n j
  simp only [Function.comp_apply, isB8, Bool.and_eq_true, decide_eq_true_eq]
  exact this
theorem by_ext (n : Int) : (byC n).extract 0 (0 + 32) = byC n := by kernel_rfl
theorem by_siz (n : Int) : (byC n).size = 32 := by kernel_rfl
theorem cv_by (n : Int) : ((byC n).extract 0 (0 + 32)).all isB8 = true ∧ 0 + 32 ≤ (byC n).size := by
  rw [by_ext, by_siz]; exact ⟨by_b8 n, by omega⟩
def x2N : Int := 24727413235106541002554574571675588834622768167397638456726423682521233608206
def y2N : Int := 15549675580280190176352668710449542251549572066445060580507079593062643049417
def s2N : Int := 32204255269836981496607255323841575043328298686926244632864367465002078137107
def e2N : Int := 11635816016306827767395297108041383048417969937796188516319649271592942455146
theorem on_2 : OnC (fp x2N) (fp y2N) := by
  unfold OnC dE
  simp only [← fp_mul, ← fp_sub, ← fp_one]
  rw [fp_eq0]
  kernel_rfl
def bs2 : Pt := ⟨fp x2N, fp y2N, on_2⟩
theorem bs2_add : base.add base = bs2 := by
  refine (Pt.add_of ?_ ?_).symm
  · show fp x2N * (1 + dE * fp bxN * fp bxN * fp byN * fp byN) = fp bxN * fp byN + fp bxN * fp byN
    unfold dE
    rw [← fp_one]
    simp only [← fp_mul, ← fp_add]
    rw [fp_eq]
    kernel_rfl
  · show fp y2N * (1 - dE * fp bxN * fp bxN * fp byN * fp byN) = fp byN * fp byN + fp bxN * fp bxN
    unfold dE
    rw [← fp_one]
    simp only [← fp_mul, ← fp_add, ← fp_sub]
    rw [fp_eq]
    kernel_rfl
theorem bs2_s : fp s2N * fp s2N = 1 - bs2.y * bs2.y := by
  show fp s2N * fp s2N = 1 - fp y2N * fp y2N
  rw [← fp_one, ← fp_mul, ← fp_mul, ← fp_sub, fp_eq]
  decide
def x3N : Int := 46896733464454938657123544595386787789046198280132665686241321779790909858396
def y3N : Int := 8324843778533443976490377120369201138301417226297555316741202210403726505172
def s3N : Int := 55894095727666740126985829510139498696687421301414054623904269626728107468254
def e3N : Int := 40260461926755251955718706939243089925229788613177830462037219643110335673492
theorem on_3 : OnC (fp x3N) (fp y3N) := by
  unfold OnC dE
  simp only [← fp_mul, ← fp_sub, ← fp_one]
  rw [fp_eq0]
  kernel_rfl
def bs3 : Pt := ⟨fp x3N, fp y3N, on_3⟩
theorem bs3_add : bs2.add base = bs3 := by
  refine (Pt.add_of ?_ ?_).symm
  · show fp x3N * (1 + dE * fp x2N * fp bxN * fp y2N * fp byN) = fp x2N * fp byN + fp bxN * fp y2N
    unfold dE
    rw [← fp_one]
    simp only [← fp_mul, ← fp_add]
    rw [fp_eq]
    kernel_rfl
  · show fp y3N * (1 - dE * fp x2N * fp bxN * fp y2N * fp byN) = fp y2N * fp byN + fp x2N * fp bxN
    unfold dE
    rw [← fp_one]
    simp only [← fp_mul, ← fp_add, ← fp_sub]
    rw [fp_eq]
    kernel_rfl
theorem bs3_s : fp s3N * fp s3N = 1 - bs3.y * bs3.y := by
  show fp s3N * fp s3N = 1 - fp y3N * fp y3N
  rw [← fp_one, ← fp_mul, ← fp_mul, ← fp_sub, fp_eq]
  decide
theorem enc_2 : enc bs2 = fp e2N := by
  refine enc_num bs2_s (y := -(fp iNum * fp x2N)) (can_fo ?_ ?_ ?_) (nod_n (by decide)) ?_
  · show ¬ fp x2N * fp y2N = 0
    rw [← fp_mul, fp_eq0]; decide
  · show od (fp x2N * fp y2N)
    rw [← fp_mul]; exact od_n (by decide)
  · show od (fp iNum * fp y2N)
    rw [← fp_mul]; exact od_n (by decide)
  · rw [← fp_one]
    simp only [← fp_mul, ← fp_neg, ← fp_add, ← fp_sub]
    rw [fp_eq]
    decide
theorem enc_3 : enc bs3 = fp e3N := by
  refine enc_num bs3_s (y := fp y3N) (can_no ?_ ?_ ?_) (nod_n (by decide)) ?_
  · show ¬ fp x3N * fp y3N = 0
    rw [← fp_mul, fp_eq0]; decide
  · show ¬ od (fp x3N * fp y3N)
    rw [← fp_mul]; exact nod_n (by decide)
  · show ¬ od (fp x3N)
    exact nod_n (by decide)
  · rw [← fp_one]
    simp only [← fp_mul, ← fp_neg, ← fp_add, ← fp_sub]
    rw [fp_eq]
    decide
theorem dp_addS (p q : P4) : dp (ptC (addP p q)) = addP p q := dp_ptC _ (ok4_add _ _)
theorem dp_idS : dp (ptC (ofP 0 1)) = ofP 0 1 := dp_ptC _ ok4_id
def q1 : P4 := addP (ofP 0 1) (ofP bxN byN)
def q2 : P4 := addP q1 (ofP bxN byN)
def q3 : P4 := addP q2 (ofP bxN byN)
theorem r1 : RepP q1 base := by
  have := rep_add rep_id rep_base
  rwa [Pt.zero_add] at this
theorem r2 : RepP q2 bs2 := by
  have := rep_add r1 rep_base
  rwa [bs2_add] at this
theorem r3 : RepP q3 bs3 := by
  have := rep_add r2 rep_base
  rwa [bs3_add] at this
theorem can_0 : can Pt.zero = Pt.zero := by
  unfold can
  rw [if_pos (by rw [zero_x, z_mul])]
theorem enc_0 : enc Pt.zero = 0 := by
  refine enc_num (s := 0) (y := 1) (by rw [zero_y, mul1, zz0, sub1]) (by rw [can_0, zero_y]) od_0 ?_
  rw [zz0, z_mul, sub1]
theorem vn {f : Fp} {x : Int} (h : f = fp x) (hx : x % pr = x) : (f.val : Int) = x := by rw [h, fp_val, hx]
theorem st_eq {p : P4} {a : Pt} {e : Int} {s : ByteArray} (h : RepP p a) (he : ((enc a).val : Int) = e) (hs : bstr (byC e) = s) : (!((bstr ((byC (encI p)).extract 0 (0 + 32))).toList == s.toList)) = false := by
  rw [by_ext, enc_repP h, he, hs, beq_self_eq_true]
  rfl
def sta_h (i : Nat) : Hn := if i = 7 then ⟨6, [], [], [], []⟩ else if i = 9 then ⟨3, [], [], [], []⟩ else ⟨0, [], [], [], []⟩
theorem sta_0  : evF (yty.en tab18) sta_h Try.f5 [] [none, some (.bool false), none, none, some (.bool false), none, none, some (.bool false), none, none, some (.bool false)] = some (.bool true, (((((((((((((((((((((((((((((((((((((((((((((((((((((((((((((((((((((((((((((((((True ∧ True) ∧ True) ∧ ((#[.string std0, .string std1, .string std2, .string std3] : Array Value).all (fun v => v.oneCell') = true)) ∧ True) ∧ ((ptC (ofP 0 1)).all (fun v => v.oneCell') = true)) ∧ True) ∧ True) ∧ True) ∧ True) ∧ True) ∧ ptD.is (ptC (ofP 0 1))) ∧ ((byC (encI (dp (ptC (ofP 0 1))))).all (fun v => v.oneCell') = true)) ∧ True) ∧ (((byC (encI (dp (ptC (ofP 0 1))))).extract 0 (0 + 32)).all isB8 = true ∧ 0 + 32 ≤ (byC (encI (dp (ptC (ofP 0 1))))).size)) ∧ True) ∧ ((0 : Int) ≤ 0 ∧ (0 : Int) < ((4 : Nat) : Int))) ∧ True) ∧ (True ∧ (!(((bstr ((byC (encI (dp (ptC (ofP 0 1))))).extract 0 (0 + 32)))).toList == (std0).toList)) = false)) ∧ True) ∧ True) ∧ (ptD.is (ptC (ofP 0 1)) ∧ ptD.is (ptC (ofP bxN byN)))) ∧ ((ptC (addP (dp (ptC (ofP 0 1))) (dp (ptC (ofP bxN byN))))).all (fun v => v.oneCell') = true)) ∧ True) ∧ True) ∧ True) ∧ True) ∧ True) ∧ True) ∧ ptD.is (ptC (addP (dp (ptC (ofP 0 1))) (dp (ptC (ofP bxN byN)))))) ∧ ((byC (encI (dp (ptC (addP (dp (ptC (ofP 0 1))) (dp (ptC (ofP bxN byN)))))))).all (fun v => v.oneCell') = true)) ∧ True) ∧ (((byC (encI (dp (ptC (addP (dp (ptC (ofP 0 1))) (dp (ptC (ofP bxN byN)))))))).extract 0 (0 + 32)).all isB8 = true ∧ 0 + 32 ≤ (byC (encI (dp (ptC (addP (dp (ptC (ofP 0 1))) (dp (ptC (ofP bxN byN)))))))).size)) ∧ True) ∧ ((0 : Int) ≤ 1 ∧ (1 : Int) < ((4 : Nat) : Int))) ∧ True) ∧ (True ∧ (!(((bstr ((byC (encI (dp (ptC (addP (dp (ptC (ofP 0 1))) (dp (ptC (ofP bxN byN)))))))).extract 0 (0 + 32)))).toList == (std1).toList)) = false)) ∧ True) ∧ True) ∧ (ptD.is (ptC (addP (dp (ptC (ofP 0 1))) (dp (ptC (ofP bxN byN))))) ∧ ptD.is (ptC (ofP bxN byN)))) ∧ ((ptC (addP (dp (ptC (addP (dp (ptC (ofP 0 1))) (dp (ptC (ofP bxN byN)))))) (dp (ptC (ofP bxN byN))))).all (fun v => v.oneCell') = true)) ∧ True) ∧ True) ∧ True) ∧ True) ∧ True) ∧ True) ∧ ptD.is (ptC (addP (dp (ptC (addP (dp (ptC (ofP 0 1))) (dp (ptC (ofP bxN byN)))))) (dp (ptC (ofP bxN byN)))))) ∧ ((byC (encI (dp (ptC (addP (dp (ptC (addP (dp (ptC (ofP 0 1))) (dp (ptC (ofP bxN byN)))))) (dp (ptC (ofP bxN byN)))))))).all (fun v => v.oneCell') = true)) ∧ True) ∧ (((byC (encI (dp (ptC (addP (dp (ptC (addP (dp (ptC (ofP 0 1))) (dp (ptC (ofP bxN byN)))))) (dp (ptC (ofP bxN byN)))))))).extract 0 (0 + 32)).all isB8 = true ∧ 0 + 32 ≤ (byC (encI (dp (ptC (addP (dp (ptC (addP (dp (ptC (ofP 0 1))) (dp (ptC (ofP bxN byN)))))) (dp (ptC (ofP bxN byN)))))))).size)) ∧ True) ∧ ((0 : Int) ≤ 2 ∧ (2 : Int) < ((4 : Nat) : Int))) ∧ True) ∧ (True ∧ (!(((bstr ((byC (encI (dp (ptC (addP (dp (ptC (addP (dp (ptC (ofP 0 1))) (dp (ptC (ofP bxN byN)))))) (dp (ptC (ofP bxN byN)))))))).extract 0 (0 + 32)))).toList == (std2).toList)) = false)) ∧ True) ∧ True) ∧ (ptD.is (ptC (addP (dp (ptC (addP (dp (ptC (ofP 0 1))) (dp (ptC (ofP bxN byN)))))) (dp (ptC (ofP bxN byN))))) ∧ ptD.is (ptC (ofP bxN byN)))) ∧ ((ptC (addP (dp (ptC (addP (dp (ptC (addP (dp (ptC (ofP 0 1))) (dp (ptC (ofP bxN byN)))))) (dp (ptC (ofP bxN byN)))))) (dp (ptC (ofP bxN byN))))).all (fun v => v.oneCell') = true)) ∧ True) ∧ True) ∧ True) ∧ True) ∧ True) ∧ True) ∧ ptD.is (ptC (addP (dp (ptC (addP (dp (ptC (addP (dp (ptC (ofP 0 1))) (dp (ptC (ofP bxN byN)))))) (dp (ptC (ofP bxN byN)))))) (dp (ptC (ofP bxN byN)))))) ∧ ((byC (encI (dp (ptC (addP (dp (ptC (addP (dp (ptC (addP (dp (ptC (ofP 0 1))) (dp (ptC (ofP bxN byN)))))) (dp (ptC (ofP bxN byN)))))) (dp (ptC (ofP bxN byN)))))))).all (fun v => v.oneCell') = true)) ∧ True) ∧ (((byC (encI (dp (ptC (addP (dp (ptC (addP (dp (ptC (addP (dp (ptC (ofP 0 1))) (dp (ptC (ofP bxN byN)))))) (dp (ptC (ofP bxN byN)))))) (dp (ptC (ofP bxN byN)))))))).extract 0 (0 + 32)).all isB8 = true ∧ 0 + 32 ≤ (byC (encI (dp (ptC (addP (dp (ptC (addP (dp (ptC (addP (dp (ptC (ofP 0 1))) (dp (ptC (ofP bxN byN)))))) (dp (ptC (ofP bxN byN)))))) (dp (ptC (ofP bxN byN)))))))).size)) ∧ True) ∧ ((0 : Int) ≤ 3 ∧ (3 : Int) < ((4 : Nat) : Int))) ∧ True) ∧ (True ∧ (!(((bstr ((byC (encI (dp (ptC (addP (dp (ptC (addP (dp (ptC (addP (dp (ptC (ofP 0 1))) (dp (ptC (ofP bxN byN)))))) (dp (ptC (ofP bxN byN)))))) (dp (ptC (ofP bxN byN)))))))).extract 0 (0 + 32)))).toList == (std3).toList)) = false)) ∧ True) ∧ True) ∧ (ptD.is (ptC (addP (dp (ptC (addP (dp (ptC (addP (dp (ptC (ofP 0 1))) (dp (ptC (ofP bxN byN)))))) (dp (ptC (ofP bxN byN)))))) (dp (ptC (ofP bxN byN))))) ∧ ptD.is (ptC (ofP bxN byN)))) ∧ ((ptC (addP (dp (ptC (addP (dp (ptC (addP (dp (ptC (addP (dp (ptC (ofP 0 1))) (dp (ptC (ofP bxN byN)))))) (dp (ptC (ofP bxN byN)))))) (dp (ptC (ofP bxN byN)))))) (dp (ptC (ofP bxN byN))))).all (fun v => v.oneCell') = true)) ∧ True) ∧ True) ∧ True) ∧ True) ∧ True)) := by kernel_rfl
set_option maxHeartbeats 4000000 in
theorem sta_p   (h1 : (!(((bstr ((byC (encI ((ofP 0 1)))).extract 0 (0 + 32)))).toList == (std0).toList)) = false) (h3 : (!(((bstr ((byC (encI ((addP ((ofP 0 1)) ((ofP bxN byN)))))).extract 0 (0 + 32)))).toList == (std1).toList)) = false) (h5 : (!(((bstr ((byC (encI ((addP ((addP ((ofP 0 1)) ((ofP bxN byN)))) ((ofP bxN byN)))))).extract 0 (0 + 32)))).toList == (std2).toList)) = false) (h7 : (!(((bstr ((byC (encI ((addP ((addP ((addP ((ofP 0 1)) ((ofP bxN byN)))) ((ofP bxN byN)))) ((ofP bxN byN)))))).extract 0 (0 + 32)))).toList == (std3).toList)) = false) : Pure Try.prog 5 #[] (.bool true) := by
  have h1 : (!(((bstr ((byC (encI (dp (ptC (ofP 0 1))))).extract 0 (0 + 32)))).toList == (std0).toList)) = false := by
    simp only [nm_mod, nn_mod, nm_inv, nn_inv, nm_d, nn_d, nm_1, nn_1, nm_root, nn_quo, dp_addS, dp_idS, dp_ptC _ ok4_base]
    first | exact h1 | simp
  have h3 : (!(((bstr ((byC (encI (dp (ptC (addP (dp (ptC (ofP 0 1))) (dp (ptC (ofP bxN byN)))))))).extract 0 (0 + 32)))).toList == (std1).toList)) = false := by
    simp only [nm_mod, nn_mod, nm_inv, nn_inv, nm_d, nn_d, nm_1, nn_1, nm_root, nn_quo, dp_addS, dp_idS, dp_ptC _ ok4_base]
    first | exact h3 | simp
  have h5 : (!(((bstr ((byC (encI (dp (ptC (addP (dp (ptC (addP (dp (ptC (ofP 0 1))) (dp (ptC (ofP bxN byN)))))) (dp (ptC (ofP bxN byN)))))))).extract 0 (0 + 32)))).toList == (std2).toList)) = false := by
    simp only [nm_mod, nn_mod, nm_inv, nn_inv, nm_d, nn_d, nm_1, nn_1, nm_root, nn_quo, dp_addS, dp_idS, dp_ptC _ ok4_base]
    first | exact h5 | simp
  have h7 : (!(((bstr ((byC (encI (dp (ptC (addP (dp (ptC (addP (dp (ptC (addP (dp (ptC (ofP 0 1))) (dp (ptC (ofP bxN byN)))))) (dp (ptC (ofP bxN byN)))))) (dp (ptC (ofP bxN byN)))))))).extract 0 (0 + 32)))).toList == (std3).toList)) = false := by
    simp only [nm_mod, nn_mod, nm_inv, nn_inv, nm_d, nn_d, nm_1, nn_1, nm_root, nn_quo, dp_addS, dp_idS, dp_ptC _ ok4_base]
    first | exact h7 | simp
  exact pure_of mixed Try.func5 _ (sta_0) rfl ⟨⟨⟨⟨⟨⟨⟨⟨⟨⟨⟨⟨⟨⟨⟨⟨⟨⟨⟨⟨⟨⟨⟨⟨⟨⟨⟨⟨⟨⟨⟨⟨⟨⟨⟨⟨⟨⟨⟨⟨⟨⟨⟨⟨⟨⟨⟨⟨⟨⟨⟨⟨⟨⟨⟨⟨⟨⟨⟨⟨⟨⟨⟨⟨⟨⟨⟨⟨⟨⟨⟨⟨⟨⟨⟨⟨⟨⟨⟨⟨⟨trivial, trivial⟩, trivial⟩, (by kernel_rfl)⟩, trivial⟩, ptC_one _⟩, trivial⟩, trivial⟩, trivial⟩, trivial⟩, trivial⟩, (ptD.is_enc (ok4_id))⟩, byK_one _ _⟩, trivial⟩, cv_by _⟩, trivial⟩, ⟨by decide, by decide⟩⟩, trivial⟩, ⟨trivial, h1⟩⟩, trivial⟩, trivial⟩, ⟨(ptD.is_enc (ok4_id)), (ptD.is_enc (ok4_base))⟩⟩, ptC_one _⟩, trivial⟩, trivial⟩, trivial⟩, trivial⟩, trivial⟩, trivial⟩, (ptD.is_enc (ok4_add _ _))⟩, byK_one _ _⟩, trivial⟩, cv_by _⟩, trivial⟩, ⟨by decide, by decide⟩⟩, trivial⟩, ⟨trivial, h3⟩⟩, trivial⟩, trivial⟩, ⟨(ptD.is_enc (ok4_add _ _)), (ptD.is_enc (ok4_base))⟩⟩, ptC_one _⟩, trivial⟩, trivial⟩, trivial⟩, trivial⟩, trivial⟩, trivial⟩, (ptD.is_enc (ok4_add _ _))⟩, byK_one _ _⟩, trivial⟩, cv_by _⟩, trivial⟩, ⟨by decide, by decide⟩⟩, trivial⟩, ⟨trivial, h5⟩⟩, trivial⟩, trivial⟩, ⟨(ptD.is_enc (ok4_add _ _)), (ptD.is_enc (ok4_base))⟩⟩, ptC_one _⟩, trivial⟩, trivial⟩, trivial⟩, trivial⟩, trivial⟩, trivial⟩, (ptD.is_enc (ok4_add _ _))⟩, byK_one _ _⟩, trivial⟩, cv_by _⟩, trivial⟩, ⟨by decide, by decide⟩⟩, trivial⟩, ⟨trivial, h7⟩⟩, trivial⟩, trivial⟩, ⟨(ptD.is_enc (ok4_add _ _)), (ptD.is_enc (ok4_base))⟩⟩, ptC_one _⟩, trivial⟩, trivial⟩, trivial⟩, trivial⟩, trivial⟩
theorem standard_c : Pure Try.prog 5 #[] (.bool true) :=
  sta_p (st_eq rep_id (by rw [enc_0]) (by kernel_rfl)) (st_eq r1 (vn enc_base (by decide)) (by kernel_rfl)) (st_eq r2 (vn enc_2 (by decide)) (by kernel_rfl)) (st_eq r3 (vn enc_3 (by decide)) (by kernel_rfl))
end Go.Proofs.Ytbjllhcjbblojaa
