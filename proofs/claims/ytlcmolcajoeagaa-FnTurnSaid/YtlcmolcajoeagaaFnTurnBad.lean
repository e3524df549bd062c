/- What is no tree is told as none by both. -/
import Derived.Test.YtlcmolcajoeagaaFnTurnFn
import Derived.KernelRfl
namespace Go.AI.T
open Go Go.RowKit Go.AI
set_option linter.unusedVariables false
set_option linter.unusedSimpArgs false
set_option maxRecDepth 100000
noncomputable section
theorem bad_FnTurn (B : Blk) (N g : Nat) {l : List Nat} {n : Nat} (z : Int) (hn : lenL l = n) (hm : n ≤ 1048576) (ht : isTree l = false) : tells (c_laws_FnTurn_r11 (N + 5) g (.one .tup (.cons (.str l n) (.cons (.int 3 z) (.leaf .nil)))) (hCode B)) = true := by
  cases z <;> (
  delta c_impl_readPairs c_impl_PairTurn c_spec_PairIn c_spec_PairTurn c_impl_PairIn c_impl_PairTurns c_impl_TreeTurned c_impl_besides c_impl_PairFar c_impl_leads c_impl_PairBelow c_laws_FnTurn_r11
  repeat (first | rw [spec_bad hn ht] | rw [read_bad hn hm ht] | rw [bindR_some'] | rw [aExtract_0] | rw [aExtract_1] | rw [aNot_b] | rw [bnot_f] | rw [bnot_t] | rw [withBool_bool] | rw [bc_true] | rw [bc_false])
  kernel_rfl)
/-- One tree's trial at one node. -/
def one_FnTurn (B : Blk) (l : List Nat) (z : Int) : Bool := tells (c_laws_FnTurn_r11 2097152 20 (.one .tup (.cons (.str l (lenL l)) (.cons (.int 3 z) (.leaf .nil)))) (hCode B))
def low_FnTurn (B : Blk) (l : List Nat) (k : Nat) : Bool := @Nat.rec (fun _ => Bool) true (fun j r => bc (one_FnTurn B l (.ofNat j)) r false) k
def ok_FnTurn (B : Blk) (l : List Nat) : Bool := bc (Nat.ble (lenL l) 18) (bc (one_FnTurn B l (.negSucc 0)) (low_FnTurn B l 20) false) true
theorem low_FnTurn_some {B : Blk} {l : List Nat} : ∀ k, low_FnTurn B l k = true → ∀ j, j < k → one_FnTurn B l (.ofNat j) = true
  | 0, _, j, hj => by omega
  | k + 1, h, j, hj => by
    have h : bc (one_FnTurn B l (.ofNat k)) (low_FnTurn B l k) false = true := h
    cases h1 : one_FnTurn B l (.ofNat k) with
    | false => rw [h1] at h; cases h
    | true =>
      rw [h1, bc_true] at h
      by_cases e : j = k
      · subst e; exact h1
      · exact low_FnTurn_some k h j (by omega)
theorem ok_FnTurn_one {B : Blk} {l : List Nat} {z : Int} (h : ok_FnTurn B l = true) (hl : l.length ≤ 18) (hz : z = .negSucc 0 ∨ ∃ j, z = .ofNat j ∧ j ≤ l.length / 2 + 10) : one_FnTurn B l z = true := by
  unfold ok_FnTurn at h
  rw [lenL_eq, ble_true hl, bc_true] at h
  cases h1 : one_FnTurn B l (.negSucc 0) with
  | false => rw [h1] at h; cases h
  | true =>
    rw [h1, bc_true] at h
    rcases hz with rfl | ⟨j, rfl, hj⟩
    · exact h1
    · exact low_FnTurn_some 20 h j (by omega)
end
end Go.AI.T
