/- What is no tree is told as none by both. -/
import Derived.Test.YtjnmogmddhichaaDoorCutLeafFn
import Derived.KernelRfl
namespace Go.AI.T
open Go Go.RowKit Go.AI
set_option linter.unusedVariables false
set_option linter.unusedSimpArgs false
set_option maxRecDepth 100000
noncomputable section
theorem bad_CutLeaf {l : List Nat} {n : Nat} (hn : lenL l = n) (ht : isTree l = false) : tells (c_laws_FnExactCutLeaf 2097152 20 (.str l n) (Hp 1 65535)) = true := by
  by_cases h20 : 1048576 < n
  · simp only [c_laws_FnExactCutLeaf, aLenK_str, aCmpI_int, kEq_self, bc_true, ilt_nat, ble_true (show Nat.succ 1048576 ≤ n by omega), withBool_bool]; rfl
  · simp only [c_spec_l1Done, c_spec_CutLeaf, c_impl_TreeIn, c_impl_CutLeaf, c_laws_FnExactCutLeaf, ble_false (show n < Nat.succ 1048576 by omega), spec_bad hn ht, read_bad hn (show n ≤ 1048576 by omega) ht, aLenK_str, aCmpI_int, kEq_self, bc_true, bc_false, ilt_nat, withBool_bool, noTree, bindR_some', aExtract_0, aExtract_1, aNot_b, bnot_t, bnot_f, hd_cons, tl_cons]
    kernel_rfl
/-- One tree's trial. -/
def ok_CutLeaf (l : List Nat) : Bool := tells (c_laws_FnExactCutLeaf 2097152 20 (.str l (lenL l)) (Hp 1 65535))
end
end Go.AI.T
