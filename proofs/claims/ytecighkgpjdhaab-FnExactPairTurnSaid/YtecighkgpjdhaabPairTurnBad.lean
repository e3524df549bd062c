/- What is no tree is told as none by both. -/
import Derived.Test.YtecighkgpjdhaabPairTurnFn
import Derived.KernelRfl
namespace Go.AI.T
open Go Go.RowKit Go.AI
set_option linter.unusedVariables false
set_option linter.unusedSimpArgs false
set_option maxRecDepth 100000
noncomputable section
theorem bad_PairTurn {l : List Nat} {n : Nat} (v : Int) (hn : lenL l = n) (ht : isTree l = false) : tells (c_laws_FnExactPairTurn 2097152 20 (.str l n) (.int 3 v) H0) = true := by
  by_cases h20 : 1048576 < n
  · simp only [c_laws_FnExactPairTurn, aLenK_str, aCmpI_int, kEq_self, bc_true, ilt_nat, ble_true (show Nat.succ 1048576 ≤ n by omega), withBool_bool]; rfl
  · cases v <;> (simp only [c_spec_PairIn, c_spec_PairTurn, c_impl_readPairs, c_impl_PairTurn, c_laws_FnExactPairTurn, ble_false (show n < Nat.succ 1048576 by omega), spec_bad hn ht, read_bad hn (show n ≤ 1048576 by omega) ht, aLenK_str, aCmpI_int, kEq_self, bc_true, bc_false, ilt_nat, withBool_bool, noTree, bindR_some', aExtract_0, aExtract_1, aNot_b, bnot_t, bnot_f, hd_cons, tl_cons]; kernel_rfl)
/-- One tree's trial at one number. -/
def one_PairTurn (l : List Nat) (v : Int) : Bool := tells (c_laws_FnExactPairTurn 2097152 20 (.str l (lenL l)) (.int 3 v) H0)
def low_PairTurn (l : List Nat) (k : Nat) : Bool := @Nat.rec (fun _ => Bool) true (fun j r => bc (one_PairTurn l (.ofNat j)) r false) k
def ok_PairTurn (j : Nat) (l : List Nat) : Bool := bc (one_PairTurn l (.negSucc j)) (bc (one_PairTurn l (.ofNat (j + 9))) (low_PairTurn l 9) false) false
theorem low_PairTurn_some {l : List Nat} : ∀ k, low_PairTurn l k = true → ∀ j, j < k → one_PairTurn l (.ofNat j) = true
  | 0, _, j, hj => by omega
  | k + 1, h, j, hj => by
    have h : bc (one_PairTurn l (.ofNat k)) (low_PairTurn l k) false = true := h
    cases h1 : one_PairTurn l (.ofNat k) with
    | false => rw [h1] at h; cases h
    | true =>
      rw [h1, bc_true] at h
      by_cases e : j = k
      · subst e; exact h1
      · exact low_PairTurn_some k h j (by omega)
theorem ok_PairTurn_one {l : List Nat} (h : ∀ j, ok_PairTurn j l = true) (v : Int) : one_PairTurn l v = true := by
  have split : ∀ j, one_PairTurn l (.negSucc j) = true ∧ one_PairTurn l (.ofNat (j + 9)) = true ∧ low_PairTurn l 9 = true := fun j => by
    have hj := h j
    unfold ok_PairTurn at hj
    cases h1 : one_PairTurn l (.negSucc j) with
    | false => rw [h1] at hj; cases hj
    | true =>
      rw [h1, bc_true] at hj
      cases h2 : one_PairTurn l (.ofNat (j + 9)) with
      | false => rw [h2] at hj; cases hj
      | true => rw [h2, bc_true] at hj; exact ⟨rfl, rfl, hj⟩
  cases v with
  | negSucc j => exact (split j).1
  | ofNat j =>
    by_cases hj : j < 9
    · exact low_PairTurn_some 9 (split 0).2.2 j hj
    · obtain ⟨i, rfl⟩ : ∃ i, j = i + 9 := ⟨j - 9, by omega⟩
      exact (split i).2.1
end
end Go.AI.T
