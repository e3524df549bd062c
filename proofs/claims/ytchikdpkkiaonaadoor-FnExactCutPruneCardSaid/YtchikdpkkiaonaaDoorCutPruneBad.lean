/- What is no tree is told as none by both. -/
import Derived.Test.YtchikdpkkiaonaaDoorCutPruneFn
import Derived.KernelRfl
namespace Go.AI.T
open Go Go.RowKit Go.AI
set_option linter.unusedVariables false
set_option linter.unusedSimpArgs false
set_option maxRecDepth 100000
noncomputable section
theorem bad_node {F g : Nat} {l : List Nat} {n : Nat} (v : Int) (hn : lenL l = n) (ht : isTree l = false) (h : H) : c_spec_l1Node F g (.str l n) (.int 3 v) h = some (.bool false, h) := by
  unfold c_spec_l1Node; rw [spec_bad hn ht]; kernel_rfl
theorem bad_spec {F g : Nat} {l : List Nat} {n : Nat} (v : Int) (hn : lenL l = n) (ht : isTree l = false) (h : H) : c_spec_CutPrune F g (.str l n) (.int 3 v) h = some ((AV.one .tup (.cons (.str [] 0) (.cons (.bool false) (.leaf .nil)))), h) := by
  unfold c_spec_CutPrune; rw [bad_node v hn ht]; kernel_rfl
theorem bad_in {F g : Nat} {l : List Nat} {n : Nat} (v : Int) (hn : lenL l = n) (hm : n ≤ 1048576) (ht : isTree l = false) (h : H) : c_impl_nodeIn F g (.str l n) (.int 3 v) h = some (AV.one .tup (.cons (.leaf .nilp) (.cons (.one (.iface 77) (.one .agg (.cons (.int 3 v) (.leaf .nil)))) (.leaf .nil))), h) := by
  unfold c_impl_nodeIn; rw [read_bad hn hm ht]; kernel_rfl
theorem bad_impl {F g : Nat} (E : Env) {l : List Nat} {n : Nat} (v : Int) (hn : lenL l = n) (hm : n ≤ 1048576) (ht : isTree l = false) : c_impl_CutPrune F g E (.str l n) (.int 3 v) (Hp 262262 46) = some ((AV.one .tup (.cons (.str [] 0) (.cons (.bool false) (.leaf .nil)))), (((Hp 262262 46)).push (.cells 0 [.leaf .nilp])).set 1 (.cells 0 [.leaf .nilp])) := by
  unfold c_impl_CutPrune; rw [bad_in v hn hm ht]
  kernel_rfl
theorem law_CutPrune (F g : Nat) (v : Int) {l : List Nat} {n : Nat} (hn : lenL l = n) (hm : n ≤ 1048576) (ht : isTree l = false) : tells (c_laws_FnExactCutPrune F g (.str l n) (.int 3 v) (Hp 262262 46)) = true := by
  have hb : Nat.ble (Nat.succ 1048576) n = false := ble_false (by omega)
  delta c_laws_FnExactCutPrune
  rw [aLenK_str, aCmpI_int, kEq_self, bc_true, ilt_nat, hb, withBool_bool, bc_false, bad_spec v hn ht, bindR_some', aExtract_0, aExtract_1, bad_impl (D_laws_FnExactCutPrune F g) v hn hm ht, bindR_some', aExtract_0, aExtract_1]
  show _ = true
  kernel_rfl
theorem bad_CutPrune {l : List Nat} {n : Nat} (v : Int) (hn : lenL l = n) (ht : isTree l = false) : tells (c_laws_FnExactCutPrune 2097152 20 (.str l n) (.int 3 v) (Hp 262262 46)) = true := by
  by_cases h20 : 1048576 < n
  · simp only [c_laws_FnExactCutPrune, aLenK_str, aCmpI_int, kEq_self, bc_true, ilt_nat, ble_true (show Nat.succ 1048576 ≤ n by omega), withBool_bool]; rfl
  · exact law_CutPrune _ _ v hn (by omega) ht
/-- One tree's trial at one number. -/
def one_CutPrune (l : List Nat) (v : Int) : Bool := tells (c_laws_FnExactCutPrune 2097152 20 (.str l (lenL l)) (.int 3 v) (Hp 262262 46))
def low_CutPrune (l : List Nat) (k : Nat) : Bool := @Nat.rec (fun _ => Bool) true (fun j r => bc (one_CutPrune l (.ofNat j)) r false) k
def ok_CutPrune (j : Nat) (l : List Nat) : Bool := bc (one_CutPrune l (.negSucc j)) (bc (one_CutPrune l (.ofNat (j + 9))) (low_CutPrune l 9) false) false
theorem low_CutPrune_some {l : List Nat} : ∀ k, low_CutPrune l k = true → ∀ j, j < k → one_CutPrune l (.ofNat j) = true
  | 0, _, j, hj => by omega
  | k + 1, h, j, hj => by
    have h : bc (one_CutPrune l (.ofNat k)) (low_CutPrune l k) false = true := h
    cases h1 : one_CutPrune l (.ofNat k) with
    | false => rw [h1] at h; cases h
    | true =>
      rw [h1, bc_true] at h
      by_cases e : j = k
      · subst e; exact h1
      · exact low_CutPrune_some k h j (by omega)
theorem ok_CutPrune_one {l : List Nat} (h : ∀ j, ok_CutPrune j l = true) (v : Int) : one_CutPrune l v = true := by
  have split : ∀ j, one_CutPrune l (.negSucc j) = true ∧ one_CutPrune l (.ofNat (j + 9)) = true ∧ low_CutPrune l 9 = true := fun j => by
    have hj := h j
    unfold ok_CutPrune at hj
    cases h1 : one_CutPrune l (.negSucc j) with
    | false => rw [h1] at hj; cases hj
    | true =>
      rw [h1, bc_true] at hj
      cases h2 : one_CutPrune l (.ofNat (j + 9)) with
      | false => rw [h2] at hj; cases hj
      | true => rw [h2, bc_true] at hj; exact ⟨rfl, rfl, hj⟩
  cases v with
  | negSucc j => exact (split j).1
  | ofNat j =>
    by_cases hj : j < 9
    · exact low_CutPrune_some 9 (split 0).2.2 j hj
    · obtain ⟨i, rfl⟩ : ∃ i, j = i + 9 := ⟨j - 9, by omega⟩
      exact (split i).2.1
end
end Go.AI.T
