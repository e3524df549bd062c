/- What is no tree is told as none by both. -/
import Derived.Test.YtlcmolcajoeagaaFnDeepFn
import Derived.KernelRfl
namespace Go.AI.T
open Go Go.RowKit Go.AI
set_option linter.unusedVariables false
set_option linter.unusedSimpArgs false
set_option maxRecDepth 100000
noncomputable section
theorem bad_FnDeep (B : Blk) (N g : Nat) {l : List Nat} {n : Nat} (hn : lenL l = n) (hm : n ≤ 1048576) (ht : isTree l = false) : tells (c_laws_FnDeep_r5 (N + 5) g (.str l n) (hCode B)) = true := by
  delta c_impl_readPairs c_impl_sumOfInner c_impl_PairDeep c_spec_PairIn c_spec_PairDeep c_impl_TreeUp c_impl_LevelsOf c_laws_FnDeep_r5
  repeat (first | rw [spec_bad hn ht] | rw [read_bad hn hm ht] | rw [bindR_some'] | rw [aExtract_0] | rw [aExtract_1] | rw [aNot_b] | rw [bnot_f] | rw [bnot_t] | rw [withBool_bool] | rw [bc_true] | rw [bc_false])
  kernel_rfl
/-- One tree's trial. -/
def ok_FnDeep (B : Blk) (l : List Nat) : Bool := bc (Nat.ble (lenL l) 18) (tells (c_laws_FnDeep_r5 2097152 20 (.str l (lenL l)) (hCode B))) true
end
end Go.AI.T
