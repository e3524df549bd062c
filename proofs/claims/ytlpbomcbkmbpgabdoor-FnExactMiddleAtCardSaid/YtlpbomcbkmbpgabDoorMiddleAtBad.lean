/- What is no tree is told as none by both. -/
import Derived.Test.YtlpbomcbkmbpgabDoorMiddleAtFn
import Derived.KernelRfl
namespace Go.AI.T
open Go Go.RowKit Go.AI
set_option linter.unusedVariables false
set_option linter.unusedSimpArgs false
set_option maxRecDepth 100000
noncomputable section
theorem nn (v : Int) (h : H) : c_impl_isNoNode 2097152 20 (.one (.iface 43) (.one .agg (.cons (.int 3 v) (.leaf .nil)))) h = bc (pinOk h) (some (.bool true, h)) none := rfl
section
variable {l : List Nat} {n : Nat} (v : Int) (hn : lenL l = n) (hm : n ≤ 1048576) (ht : isTree l = false)
include hn ht
theorem bad_node (h : H) : c_spec_l1Node 2097152 20 (.str l n) (.int 3 v) h = some (.bool false, h) := by
  unfold c_spec_l1Node; rw [spec_bad hn ht]; kernel_rfl
theorem bad_spec (h : H) : c_spec_MiddleAt 2097152 20 (.str l n) (.int 3 v) h = some ((AV.one .tup (.cons (.str [] 0) (.cons (.bool false) (.leaf .nil)))), h) := by
  unfold c_spec_MiddleAt; rw [bad_node v hn ht]; kernel_rfl
include hm
theorem bad_in (h : H) : c_impl_nodeIn 2097152 20 (.str l n) (.int 3 v) h = some (AV.one .tup (.cons (.leaf .nilp) (.cons (.one (.iface 43) (.one .agg (.cons (.int 3 v) (.leaf .nil)))) (.leaf .nil))), h) := by
  unfold c_impl_nodeIn; rw [read_bad hn hm ht]; kernel_rfl
theorem bad_impl (h : H) : c_impl_MiddleAt 2097152 20 (.str l n) (.int 3 v) h = bc (pinOk h) (some ((AV.one .tup (.cons (.str [] 0) (.cons (.bool false) (.leaf .nil)))), h)) none := by
  unfold c_impl_MiddleAt; rw [bad_in v hn hm ht]
  rw [bindR_some']
  rw [aExtract_0, aExtract_1, nn]
  cases hp : pinOk h with
  | true => kernel_rfl
  | false => kernel_rfl
end
noncomputable def L_FnExactMiddleAt_j1 (F g : Nat) (qs qi : H → Option R) (vs : List AV) (h : H) : Option R := (fun x11 x12 => aPick x11 (AV.bool true) x12 h fun x13 h => withBool x13 fun t14 => bc t14 (some ((AV.bool false), h)) (some ((AV.bool true), h))) (hd vs) (hd (tl vs))
noncomputable def L_FnExactMiddleAt (F g : Nat) (qs qi : H → Option R) (a0 a1 : AV) (h : H) : Option R := aLenK 0 a0 h fun x1 h => aCmpI (fun a b => ilt b a) x1 (AV.int 3 (Int.ofNat 1048576)) h fun x2 h => withBool x2 fun t3 => bc t3 (some ((AV.bool true), h)) (bindR (qs h) fun x4 h => aExtract x4 0 h fun x5 h => aExtract x4 1 h fun x6 h => bindR (qi h) fun x7 h => aExtract x7 0 h fun x8 h => aExtract x7 1 h fun x9 h => aCmpS (fun a b => bnot (eqL a b)) x8 x5 h fun x10 h => guardB false x10 (aEq true 0 x9 x6 h fun x15 h => (L_FnExactMiddleAt_j1 F g qs qi) [x10, x15] h) ((L_FnExactMiddleAt_j1 F g qs qi) [x10, (AV.one .tup (AV.leaf .nil))] h))
theorem L_FnExactMiddleAt_eq (a0 a1 : AV) (h : H) : c_laws_FnExactMiddleAt 2097152 20 a0 a1 h = L_FnExactMiddleAt 2097152 20 (fun h => c_spec_MiddleAt 2097152 20 a0 a1 h) (fun h => c_impl_MiddleAt 2097152 20 a0 a1 h) a0 a1 h := by kernel_rfl

theorem bad_MiddleAt {l : List Nat} {n : Nat} (v : Int) (hn : lenL l = n) (ht : isTree l = false) : tells (c_laws_FnExactMiddleAt 2097152 20 (.str l n) (.int 3 v) (Hp 67 28)) = true := by
  by_cases h20 : 1048576 < n
  · simp only [c_laws_FnExactMiddleAt, aLenK_str, aCmpI_int, kEq_self, bc_true, ilt_nat, ble_true (show Nat.succ 1048576 ≤ n by omega), withBool_bool]; rfl
  · have hm : n ≤ 1048576 := by omega
    rw [L_FnExactMiddleAt_eq, show (fun h => c_spec_MiddleAt 2097152 20 (.str l n) (.int 3 v) h) = _ from funext fun h => bad_spec v hn ht h, show (fun h => c_impl_MiddleAt 2097152 20 (.str l n) (.int 3 v) h) = _ from funext fun h => bad_impl v hn hm ht h]
    have hb : Nat.ble (Nat.succ 1048576) n = false := ble_false (by omega)
    unfold L_FnExactMiddleAt
    rw [aLenK_str, aCmpI_int, kEq_self, bc_true, ilt_nat, hb, withBool_bool]
    show _ = true
    kernel_rfl
/-- One tree's trial at one number. -/
def one_MiddleAt (l : List Nat) (v : Int) : Bool := tells (c_laws_FnExactMiddleAt 2097152 20 (.str l (lenL l)) (.int 3 v) (Hp 67 28))
def low_MiddleAt (l : List Nat) (k : Nat) : Bool := @Nat.rec (fun _ => Bool) true (fun j r => bc (one_MiddleAt l (.ofNat j)) r false) k
def ok_MiddleAt (j : Nat) (l : List Nat) : Bool := bc (one_MiddleAt l (.negSucc j)) (bc (one_MiddleAt l (.ofNat (j + 9))) (low_MiddleAt l 9) false) false
theorem low_MiddleAt_some {l : List Nat} : ∀ k, low_MiddleAt l k = true → ∀ j, j < k → one_MiddleAt l (.ofNat j) = true
  | 0, _, j, hj => by omega
  | k + 1, h, j, hj => by
    have h : bc (one_MiddleAt l (.ofNat k)) (low_MiddleAt l k) false = true := h
    cases h1 : one_MiddleAt l (.ofNat k) with
    | false => rw [h1] at h; cases h
    | true =>
      rw [h1, bc_true] at h
      by_cases e : j = k
      · subst e; exact h1
      · exact low_MiddleAt_some k h j (by omega)
theorem ok_MiddleAt_one {l : List Nat} (h : ∀ j, ok_MiddleAt j l = true) (v : Int) : one_MiddleAt l v = true := by
  have split : ∀ j, one_MiddleAt l (.negSucc j) = true ∧ one_MiddleAt l (.ofNat (j + 9)) = true ∧ low_MiddleAt l 9 = true := fun j => by
    have hj := h j
    unfold ok_MiddleAt at hj
    cases h1 : one_MiddleAt l (.negSucc j) with
    | false => rw [h1] at hj; cases hj
    | true =>
      rw [h1, bc_true] at hj
      cases h2 : one_MiddleAt l (.ofNat (j + 9)) with
      | false => rw [h2] at hj; cases hj
      | true => rw [h2, bc_true] at hj; exact ⟨rfl, rfl, hj⟩
  cases v with
  | negSucc j => exact (split j).1
  | ofNat j =>
    by_cases hj : j < 9
    · exact low_MiddleAt_some 9 (split 0).2.2 j hj
    · obtain ⟨i, rfl⟩ : ∃ i, j = i + 9 := ⟨j - 9, by omega⟩
      exact (split i).2.1
end
end Go.AI.T
