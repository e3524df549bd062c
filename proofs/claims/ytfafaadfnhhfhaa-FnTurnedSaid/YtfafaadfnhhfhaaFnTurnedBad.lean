/- What is no tree is told as none by both. -/
import Derived.Test.YtfafaadfnhhfhaaFnTurnedFn
import Derived.KernelRfl
namespace Go.AI.T
open Go Go.RowKit Go.AI
set_option linter.unusedVariables false
set_option linter.unusedSimpArgs false
set_option maxRecDepth 100000
noncomputable section
theorem bad_FnTurned (B : Blk) (N g : Nat) {l : List Nat} {n : Nat} (hn : lenL l = n) (hm : n ≤ 1048576) (ht : isTree l = false) : tells (c_laws_FnTurned_r6 (N + 5) g (.str l n) (hCode B)) = true := by
  delta c_impl_TreeTurned c_spec_TreeTurned c_impl_TreeSorted c_impl_TreeAlike c_laws_FnTurned_r6
  repeat (first | rw [spec_bad hn ht] | rw [read_bad hn hm ht] | rw [bindR_some'] | rw [aExtract_0] | rw [aExtract_1] | rw [aNot_b] | rw [bnot_f] | rw [bnot_t] | rw [withBool_bool] | rw [bc_true] | rw [bc_false])
  kernel_rfl
/-- One tree's trial. -/
def ok_FnTurned (B : Blk) (l : List Nat) : Bool := bc (Nat.ble (lenL l) 16) (tells (c_laws_FnTurned_r6 2097152 20 (.str l (lenL l)) (hCode B))) true
end
end Go.AI.T
