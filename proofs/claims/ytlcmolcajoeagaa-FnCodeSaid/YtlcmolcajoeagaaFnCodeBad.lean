/- What is no tree is told as none by both. -/
import Derived.Test.YtlcmolcajoeagaaFnCodeFn
import Derived.KernelRfl
namespace Go.AI.T
open Go Go.RowKit Go.AI
set_option linter.unusedVariables false
set_option linter.unusedSimpArgs false
set_option maxRecDepth 100000
noncomputable section
theorem bad_FnCode (B : Blk) (N g : Nat) {l : List Nat} {n : Nat} (hn : lenL l = n) (hm : n ≤ 1048576) (ht : isTree l = false) : tells (c_laws_FnCode_r9 (N + 5) g (.str l n) (hCode B)) = true := by
  skip
  simp only [c_impl_codeBook_ask, c_impl_CodeOf, c_spec_CodeOf, c_impl_TreeSorted, c_impl_CodeTree, c_impl_TreeNodes, c_laws_FnCode_r9, spec_bad hn ht, read_bad hn hm ht, noTree, aLenK_str, aCmpI_int, kEq_self, bc_true, bc_false, ilt_nat, withBool_bool, noTree, bindR_some', aExtract_0, aExtract_1, aNot_b, bnot_t, bnot_f, hd_cons, tl_cons]
  kernel_rfl
/-- One tree's trial. -/
def ok_FnCode (B : Blk) (l : List Nat) : Bool := bc (Nat.ble (lenL l) 14) (tells (c_laws_FnCode_r9 2097152 20 (.str l (lenL l)) (hCode B))) true
end
end Go.AI.T
