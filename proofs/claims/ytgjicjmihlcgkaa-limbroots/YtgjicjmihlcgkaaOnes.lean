import Derived.Test.YtgjicjmihlcgkaaPower
set_option linter.unusedSimpArgs false
namespace Go.Proofs.Ytgjicjmihlcgkaa
open Go.RowKit
theorem own_some {w : World} {base : Nat} {e : TypeId} {size : Nat} {v : Value} {n : Nat} {xs : List Value} (h : w.ownsRow base e size v n xs) (hn : 0 < n) : ∃ g cap, v = .slice (some ⟨g, 0, none⟩) n cap := by
  rcases h.2 with ⟨_, h0⟩ | ⟨g, cap, cur, h1, _⟩
  · omega
  · exact ⟨g, cap, h1⟩
set_option maxHeartbeats 1000000 in
theorem ones_c (n : Nat) (hn : n ≤ 1000) (xs : List Int) (hx0 : 0 < xs.length) (hxn : xs.length ≤ n) (g c : Nat) (w : World) (hc : ∀ j u, (xs.map (Value.int .i64))[j]? = some u → w.cell? (Addr.add ⟨g, 0, none⟩ j) = some u) :
    Calls Try.prog 60 #[.int .i64 (n : Int), .slice (some ⟨g, 0, none⟩) xs.length c] w fun e w' => ∃ v, e = .returned v ∧ w'.ownsRow w.heap.size 3 1 v n ((xs ++ List.replicate (n - xs.length) 1).map (Value.int .i64)) ∧ Below w.heap.size w w' := by
  have S := Calm.St.start w
  obtain ⟨i0, hi, hz0, hz1, hz2⟩ := info_parts info3
  have HC := hide hc
  clear hc
  go_enter Try.func60, Try.ntmps60
  go_wp2_with (first | (at_builtin; refine wpList_append_own _ rfl _ _ 76 rfl w.heap.size 3 i0 (.int .i64 0) 1 8 Try.underlying76 hi hz0 hz1 hz2 rfl (by decide) _ 0 [] rfl ?c0 ⟨g, 0, none⟩ xs.length c (xs.map (Value.int .i64)) rfl ?c6 ?c1 ?c2 ?c3 ?c4 ?c5 ?_))
  case c0 => exact ⟨rfl, .inr ⟨w.heap.size, 0, #[], rfl, Nat.le_refl _, (S.new #[] 3).has _ List.mem_cons_self, Nat.le_refl _, by unfold maxLen; omega, rfl, rfl⟩⟩
  case c6 => simp
  case c1 => intro j u hj; exact (World.grownBy_alloc w _ none).cell (HC.out j u hj) (by simp)
  case c2 =>
    intro u hu
    obtain ⟨x, _, rfl⟩ := List.mem_map.1 hu
    rfl
  case c3 => unfold maxLen; omega
  case c4 => omega
  case c5 => simp
  intro v w1 hown hgrow _
  have S1 : Calm.St w w1 [] := Calm.St.grown (S.call (Below.alloc (Below.refl _ _) (Nat.le_refl _) _)) hgrow (fun g hg => by
    have : g = w.heap.size := by
      have h : (some w.heap.size : Option Nat) = some g := hg
      cases h; rfl
    refine ⟨by omega, fun x hx => by cases hx⟩)
  try simp only [Nat.zero_add, List.nil_append] at hown
  obtain ⟨g1, cap1, rfl⟩ := own_some hown hx0
  have HO := hide hown
  clear hown hgrow S
  go_wp2
  rename_i K hK
  go_loopw [5] (fun v Wr => ∃ k g1 cap1 : Nat, xs.length ≤ k ∧ k ≤ n ∧ v = .slice (some ⟨g1, 0, none⟩) k cap1 ∧ Wr.ownsRow w.heap.size 3 1 (.slice (some ⟨g1, 0, none⟩) k cap1) k ((xs ++ List.replicate (k - xs.length) 1).map (Value.int .i64)) ∧ Calm.St w Wr []) (fun v _ => n - (match v with | .slice _ l _ => l | _ => 0))
  case atStart => exact ⟨xs.length, g1, cap1, Nat.le_refl _, hxn, rfl, by rw [Nat.sub_self]; simpa using HO.out, S1⟩
  case round =>
    clear S1 HO
    obtain ⟨k, g2, cap2, hk1, hk2, rfl, hown, S⟩ := hrel
    have HO := hide hown
    clear hown
    by_cases hlt : k < n
    · have hlt' : (k : Int) < (n : Int) := by omega
      go_wp2_with (first | (at_builtin; refine wpList_append_own _ rfl _ _ 76 rfl w.heap.size 3 i0 (.int .i64 0) 1 8 Try.underlying76 hi hz0 hz1 hz2 rfl (by decide) _ _ _ rfl (HO.out.alloc _) ⟨wr.heap.size, 0, none⟩ 1 1 [.int .i64 1] rfl rfl ?c1 ?c2 ?c3 ?c4 ?c5 ?_))
      case c1 =>
        intro j u hj
        match j, hj with
        | 0, hj => simp at hj; subst hj; simp [Addr.add]
      case c2 => intro u hu; simp at hu; subst hu; rfl
      case c3 => unfold maxLen; omega
      case c4 => omega
      case c5 => have := S.below.size; simp; omega
      · intro v' w1 hown' hgrow _
        have S1 : Calm.St w w1 [] := Calm.St.grown (S.call (Below.alloc (Below.refl _ _) (Nat.le_refl _) _)) hgrow (fun g hg => ⟨own_row HO.out g hg, fun x hx => by cases hx⟩)
        obtain ⟨g3, cap3, rfl⟩ := own_some hown' (by omega)
        have O1 : w1.ownsRow w.heap.size 3 1 (.slice (some ⟨g3, 0, none⟩) (k + 1) cap3) (k + 1) ((xs ++ List.replicate (k + 1 - xs.length) 1).map (Value.int .i64)) := by
          rw [show k + 1 - xs.length = (k - xs.length) + 1 by omega, List.replicate_succ', List.map_append, List.map_append, List.map_replicate]
          exact hown'
        have HO1 := hide O1
        clear hown' hgrow S O1
        go_wp2
        go_roundw
        case rel => exact ⟨k + 1, g3, cap3, by omega, by omega, rfl, HO1.out, S1⟩
        case measure => simp; omega
    · have hk' : k = n := by omega
      subst hk'
      go_wp2
      go_ret
      exact ⟨_, rfl, HO.out, S.below⟩
end Go.Proofs.Ytgjicjmihlcgkaa
