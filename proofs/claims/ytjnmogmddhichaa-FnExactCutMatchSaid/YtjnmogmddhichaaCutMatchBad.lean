/- What is no tree is told as none by both. -/
import Derived.Test.YtjnmogmddhichaaCutMatchFn
import Derived.KernelRfl
namespace Go.AI.T
open Go Go.RowKit Go.AI
set_option linter.unusedVariables false
set_option linter.unusedSimpArgs false
set_option maxRecDepth 100000
noncomputable section
theorem bad_CutMatch {l : List Nat} {n : Nat} (hn : lenL l = n) (ht : isTree l = false) : tells (c_laws_FnExactCutMatch 2097152 20 (.str l n) H0) = true := by
  by_cases h20 : 1048576 < n
  · simp only [c_laws_FnExactCutMatch, aLenK_str, aCmpI_int, kEq_self, bc_true, ilt_nat, ble_true (show Nat.succ 1048576 ≤ n by omega), withBool_bool]; rfl
  · simp only [c_laws_FnExactCutMatch, ble_false (show n < Nat.succ 1048576 by omega), spec_bad hn ht, read_bad hn (show n ≤ 1048576 by omega) ht, aLenK_str, aCmpI_int, kEq_self, bc_true, bc_false, ilt_nat, withBool_bool, noTree, bindR_some', aExtract_0, aExtract_1, aNot_b, bnot_t, bnot_f, hd_cons, tl_cons, match_bad hn (show n ≤ 1048576 by omega) ht, smatch_bad hn ht]
    kernel_rfl
/-- One tree's trial. -/
def ok_CutMatch (l : List Nat) : Bool := tells (c_laws_FnExactCutMatch 2097152 20 (.str l (lenL l)) H0)
end
end Go.AI.T
